import PyProof.Rows.All
import Wide.All
import OpenK.AllK
import Wide.FinOn
import HandS.ForMost
import HandS.ForExc
import HandS.ExcInit
import HandS.TryMany
import HandS.IsInst
import HandS.Strs
import HandS.Evl
import HandS.Wide
import HandS.Conv
import HandS.SetFor
import HandS.SetKeys
import HandS.ExcField
import HandS.Walk
import KE.GoesMore
import HandS.TupMul
import HandS.SortKw
import KE.GoesEnum
import HandS.NoneIn
import PyProof.ListStr
import HandS.Sort
import HandS.Flow
import HandS.WordsDict
import HandS.DictComp
import HandS.Defaults
import KE.SortData
import KE.DataMinMax
import HandS.Style
import HandS.Replace
import KE.KDictZip
import KE.KStar
import HandS.Star
import HandS.TupSets
import HandS.Property
import HandS.TupAny
import HandS.ExcOwn
import OpenK.KOps
import KE.KDictKeyed
import KE.KDictCopyH
import KE.KDictList
import PyProof.TupleOfSeq
import KE.KDictSum
import PySem.Challenge.RW_holedwindows_k24_known_windows
set_option Elab.async false
set_option linter.all false
set_option maxRecDepth 100000
set_option maxHeartbeats 4000000
/-! Rules of our own: the base class's __init__ by an own class's name. -/
namespace Qt
open PySem PySem.Spec PyProof.Rows L2

section
variable {X : Cx} {e : Expr} {es : List Expr} {ta : TA} {x : Str} {p p1 p2 pos : Pos} {W : Addr}
/-- what the top says of an own class W over ValueError: W.__init__ is ValueError's -/
structure OwnBase (K : PySem.W.Frag) (W : Addr) : Prop where
  rd : PySem.W.readsIn K W (.type "type") = true
  ga : PySem.W.specialIn K (.ref W) "__getattribute__" = some (some (.builtin "type.__getattribute__"))
  it : PySem.W.findCls K (.ref W) (.type "type") "__init__" = some (.val (.builtin "ValueError.__init__"))
end
end Qt
/-! del xs[a:] of a list. -/
namespace Qt
open PySem PySem.Spec PyProof.Rows L2

section
variable {prog : Program} {w : World} {A : Around} {E : Value → Shared → Prop} {s : Shared}
end
section
variable {X : Cx} {o i : Expr} {to ti : TE} {p2 tpos pos : Pos}
def tDelTail (to : TE) (ti : TE) : TS := fun D σ H => to σ H fun x H1 => ti σ H1 fun y H2 => ∃ (l : Addr) (xs : List V) (a : Nat), x = .ref l ∧ y = .int (a : Int) ∧ H2 l = some (.lst xs) ∧ a ≤ xs.length ∧ D.nx σ (upd H2 l (.lst (xs.take a)))
end
end Qt
/-! set(xs) of a list: whatever the turns of its loop leave. -/
namespace Qt
open PySem PySem.Spec PyProof.Rows L2

/-- a set that was just made -/
abbrev sob (w : World) : Obj := { cls := .type "set", dict := none, data := .set #[] 0 (.fresh 0 0 (!w.params.followText "set-order")) }
section
variable {P : Program} {w : World} {A : Around} {E : Value → Shared → Prop} {s : Shared}
/-- the loop of set(xs) over these items leaves the set as Post says -/
def Fills (P : Program) (w : World) (items : Array Value) (Post : Addr → Heap → Prop) : Prop :=
  ∀ (A' : Around) (I : Addr) (fp wr : List Addr) (G : Array GenState → Array GenState → Prop) (St : Nat → Shared → Prop) (R : Result → Shared → Prop),
    WalksS P w A'.in1 I fp wr G items.size (fun i v => items[i]? = some v) St → ∀ (S : Addr), S ∉ fp → ∀ s0 : Shared, St 0 s0 → s0.heap.get? S = some (sob w) →
    (∀ s', Moved (S :: wr) G s0 s' → Post S s'.heap → R (.ok (.ret .none)) s') → codeAny (model P w) A' (.builtin "set.update.loop" ⟨[.ref S, .ref I], []⟩) R s0
/-- the same, told of what stood already, and of the stack's room -/
def FillsH (P : Program) (w : World) (A : Around) (h0 : Heap) (items : Array Value) (Post : Addr → Heap → Prop) : Prop :=
  ∀ (A' : Around) (I : Addr) (fp wr : List Addr) (G : Array GenState → Array GenState → Prop) (St : Nat → Shared → Prop) (R : Result → Shared → Prop),
    WalksS P w A'.in1 I fp wr G items.size (fun i v => items[i]? = some v) St → ∀ (S : Addr), S ∉ fp → ∀ s0 : Shared, St 0 s0 → s0.heap.get? S = some (sob w) →
    (∀ b o, h0.get? b = some o → s0.heap.get? b = some o) → h0.get? S = none → (∀ b ∈ wr, h0.get? b = none) → A'.in1.units ≤ A.units + 3 →
    (∀ s', Moved (S :: wr) G s0 s' → Post S s'.heap → R (.ok (.ret .none)) s') → codeAny (model P w) A' (.builtin "set.update.loop" ⟨[.ref S, .ref I], []⟩) R s0
set_option maxHeartbeats 16000000 in
theorem set_of_listH {l : Addr} {items : Array Value} {Post : Addr → Heap → Prop} {Q : Value → Shared → Prop} (hh : A.handled = none) (hl : s.heap.IsList l items) (loop : FillsH P w A s.heap items Post)
    (h : ∀ (h' : Heap) (tk : Nat), Post s.heap.objs.size h' → (∀ b o, s.heap.get? b = some o → h'.get? b = some o) → Q (.ref s.heap.objs.size) { s with heap := h', toks := tk }) :
    wpAny (model P w) A (call (.type "set") [.ref l]) Q E s := by
  obtain ⟨c, tl, hmro⟩ := F.called_set.mro
  have hmade := F.called_set.made
  have hsub := F.called_set.sub
  have h1 := F.called_set.notType
  have h2 := F.called_set.canCreate
  have hct := F.typeCall_set_1 (.ref l)
  refine wpAny_call (codeAny_of_tree ?_)
  show wpAny _ _ (callAny (.type "set") _) _ _ _
  refine wpAny_pure ⟨Code.quiet_builtin _ (by decide +kernel), codeAny_builtin F.entry_type_call ?_⟩
  rw [Around.under_plain (weight_type_call_type "set" [.ref l] []) rfl]
  repeat (any_goals (first | assumption | wp_step))
  refine codeAny_mono (code_set_led1 (.ref l) (E := E) (Q₁ := fun obj s₁ => obj = .ref s.heap.objs.size ∧ s₁ = { s with heap := s.heap.push (sob w) }) ⟨rfl, rfl⟩) fun r s₁ hr => ?_
  rcases r with er | fl
  · exact hr
  cases fl
  case ret obj =>
    obtain ⟨rfl, rfl⟩ := hr
    have hS : (s.heap.push (sob w)).get? s.heap.objs.size = some (sob w) := Heap.get?_push_size _ rfl
    have hT : Shared.TypeIs { s with heap := s.heap.push (sob w) } (.ref s.heap.objs.size) "set" := ⟨_, hS, rfl⟩
    have hli := F.called_set.init.lookup
    have hbi := F.called_set.init.bind (.ref s.heap.objs.size)
    repeat (any_goals (first | assumption | wp_step))
    refine codeAny_mono (codeAny_call_builtin (R := wants (fun r s₂ => r = .none ∧ ∃ h' tk, s₂ = { s with heap := h', toks := tk } ∧ Post s.heap.objs.size h' ∧ ∀ b o, s.heap.get? b = some o → h'.get? b = some o) E)
      F.called_set.init.plain F.entry_set_init (check_set_init_1 hT ?_)) fun r₂ s₂ hr₂ => ?_
    · obtain ⟨ol, hol, hcl, nl, hdl⟩ := hl
      obtain ⟨ocls, odict, odata, oslots⟩ := ol
      simp only at hcl hdl
      subst hcl
      subst hdl
      have hol' : (s.heap.push (sob w)).get? l = some { cls := .type "list", dict := odict, data := .seq items nl, slots := oslots } := Heap.get?_push_of_some _ hol
      have hsls := F.sub_list_set
      have hslf := F.sub_list_frozenset
      have hne : (Value.type "list" == Value.type "dict") = false := by decide
      have hl1 : (s.heap.push (sob w)).IsList l items := ⟨_, hol', rfl, nl, rfl⟩
      unfold Builtin.«set.__init__» noKeywords Builtin.Frozenset.updateFrom
      generalize hPI : pyIter = PI
      wp_walk
      subst hPI
      refine wpAny_pyIter_list hl1 ?_
      refine wpAny_bind (wpAny_runValue ?_)
      have hlS : l < s.heap.objs.size := Heap.lt_size hol
      have hz : (s.heap.push (sob w)).objs.size = s.heap.objs.size + 1 := Heap.size_push ..
      have hneI : l ≠ (s.heap.push (sob w)).objs.size := by
        rw [hz]
        exact Nat.ne_of_lt (Nat.lt_succ_of_lt hlS)
      have hSf : s.heap.objs.size ∉ [(s.heap.push (sob w)).objs.size, l] := fun z => by
        rcases List.mem_cons.mp z with z | z
        · rw [hz] at z
          exact absurd z (Nat.ne_of_lt (Nat.lt_succ_self _))
        · exact absurd (List.mem_singleton.mp z) (Nat.ne_of_gt hlS)
      have none_of : ∀ b, s.heap.objs.size ≤ b → s.heap.get? b = none := fun b hb => by
        cases q : s.heap.get? b with
        | none => rfl
        | some o => exact absurd (Nat.lt_of_lt_of_le (Heap.lt_size q) hb) (Nat.lt_irrefl _)
      refine loop _ _ _ _ _ _ _ ((Walks.list (by simp [hh]) _ l hneI items).toS) s.heap.objs.size hSf _ ⟨⟨_, Heap.get?_push_size _ rfl, rfl, rfl⟩, (hl1.push _)⟩ (Heap.get?_push_of_some _ hS)
        (fun b o e => Heap.get?_push_of_some _ (Heap.get?_push_of_some _ e)) (none_of _ (Nat.le_refl _)) (fun b hb => none_of b (by rw [List.mem_singleton.mp hb, hz]; exact Nat.le_succ _)) (Nat.le_refl _) fun s' hm hp => ?_
      obtain ⟨h', g2, d', tk', os'⟩ := s'
      obtain rfl : g2 = s.gens := hm.gens
      obtain rfl : d' = s.drawn := hm.drawn
      obtain rfl : os' = s.os := hm.os
      show wpAny _ _ _ _ _ _
      refine wpAny_pure ?_
      show wpAny _ _ (ret Value.none) _ _ _
      refine wpAny_pure ⟨rfl, h', tk', rfl, hp, fun b o e => ?_⟩
      have hb0 : b < s.heap.objs.size := Heap.lt_size e
      refine hm.heap b o (fun z => ?_) (Heap.get?_push_of_some _ (Heap.get?_push_of_some _ e))
      rcases List.mem_cons.mp z with z | z
      · exact absurd z (Nat.ne_of_lt hb0)
      · have z' := List.mem_singleton.mp z
        rw [hz] at z'
        exact absurd z' (Nat.ne_of_lt (Nat.lt_succ_of_lt hb0))
    · rcases r₂ with er | fl₂
      · exact hr₂
      cases fl₂
      case ret r =>
        obtain ⟨rfl, h', tk, rfl, hp, hk'⟩ := hr₂
        repeat (any_goals (first | assumption | wp_step))
        exact h _ _ hp hk'
      all_goals exact hr₂.elim
  all_goals exact hr.elim
theorem set_of_list {l : Addr} {items : Array Value} {Post : Addr → Heap → Prop} {Q : Value → Shared → Prop} (hh : A.handled = none) (hl : s.heap.IsList l items) (loop : Fills P w items Post)
    (h : ∀ (h' : Heap) (tk : Nat), Post s.heap.objs.size h' → (∀ b o, s.heap.get? b = some o → h'.get? b = some o) → Q (.ref s.heap.objs.size) { s with heap := h', toks := tk }) :
    wpAny (model P w) A (call (.type "set") [.ref l]) Q E s :=
  set_of_listH hh hl (fun A' I fp wr G St R W S hS s0 hst h0 _ _ _ _ hR => loop A' I fp wr G St R W S hS s0 hst h0 hR) h
end
section
variable {X : Cx}
/-- set(xs), xs a list of ints -/
def rSetI (K : PySem.W.Frag) (w : World) : List V → Hp → VK → Prop := fun xs H Q => ∃ (l : Addr) (ns : List Int), xs = [.ref l] ∧ SqL K H l (ns.map V.int) ∧ ns.length ≤ 1000 ∧
  ∀ p c, c ≤ ns.length → H p = none → Q (.ref p) (upd H p (SetO w p (fun j => decide (j ∈ ns)) c))
end
end Qt
/-! try with several clauses, with a name and without one. -/
namespace Qt
open PySem PySem.Spec PyProof.Rows L2

/-- the ends of a suite whose error has the name in slot i -/
def unnamed (i : Nat) (D : Ends) : Ends := { nx := fun σ' H' => D.nx (σ'.set i none) H', rt := D.rt, bk := fun σ' H' => D.bk (σ'.set i none) H', ct := fun σ' H' => D.ct (σ'.set i none) H' }
abbrev Suite := Addr → Value → Option Addr → TS
/-- what the clauses wish of an error, one behind the other -/
def wMix (K : PySem.W.Frag) (Wout : WX) (D : Ends) : List (Value × Option Nat × Suite) → WX
  | [] => Wout
  | (c, o, ts) :: r => fun cls d σ H => ∃ b, PySem.W.exmOne K cls c = some b ∧
      (b = true → ∀ a, H a = none → match o with
        | none => ts a cls d D σ H
        | some i => ts a cls d (unnamed i D) (σ.set i (some (.ref a))) H) ∧ (b = false → wMix K Wout D r cls d σ H)
inductive Hds (X : Cx) : List ExceptHandler → List (Value × Option Nat × Suite) → Prop
  | nil : Hds X [] []
  | plain {x : Str} {c : Value} {ts : Suite} {b₀ : Stmt} {suite : List Stmt} {np pos' : Pos} {hds : List ExceptHandler} {l : List (Value × Option Nat × Suite)} (hc : Names X x c)
      (hsu : ∀ (a : Addr) (oe : Obj) (cls : Value) (d : Option Addr) (pn : List (Addr × Obj)), Zc cls d oe → (∃ vs, oe.data = .fields vs) → PSs (X.suite a ((a, oe) :: pn)) (b₀ :: suite) (ts a cls d)) (r : Hds X hds l) :
      Hds X (.ExceptHandler (some (.Name x np)) none (b₀ :: suite) pos' :: hds) ((c, none, ts) :: l)
  | named {x n : Str} {i : Nat} {c : Value} {ts : Suite} {b₀ : Stmt} {suite : List Stmt} {np pos' : Pos} {hds : List ExceptHandler} {l : List (Value × Option Nat × Suite)} (hc : Names X x c) (hi : X.N[i]? = some n) (hln : X.env.kindOf n = some .local)
      (hsu : ∀ (a : Addr) (oe : Obj) (cls : Value) (d : Option Addr) (pn : List (Addr × Obj)), Zc cls d oe → (∃ vs, oe.data = .fields vs) → PSs (X.suite a ((a, oe) :: pn)) (b₀ :: suite) (ts a cls d)) (r : Hds X hds l) :
      Hds X (.ExceptHandler (some (.Name x np)) (some n) (b₀ :: suite) pos' :: hds) ((c, some i, ts) :: l)
section
variable {X : Cx} {body : List Stmt} {h₀ : ExceptHandler} {hds : List ExceptHandler} {l : List (Value × Option Nat × Suite)} {pos : Pos} {tb : WX → TS} {Wout : WX}
end
end Qt
/-! text * number. -/
namespace Qt
open PySem PySem.Spec PyProof.Rows L2

def repS (z : Str) (k : Nat) : Str := ⟨((List.replicate k z.cps.toList).flatten).toArray⟩
theorem foldl_app (l : List (Array Nat)) : ∀ a : Array Nat, (l.foldl (· ++ ·) a).toList = a.toList ++ (l.map Array.toList).flatten := by
  induction l with
  | nil => intro a; simp
  | cons x l ih => intro a; rw [List.foldl_cons, ih]; simp
theorem repS_fold (z : Str) (k : Nat) : (⟨(List.replicate k z.cps).foldl (· ++ ·) #[]⟩ : Str) = repS z k := by
  unfold repS
  congr 1
  apply Array.toList_inj.mp
  rw [foldl_app]
  simp
theorem repS_one (z : Str) : repS z 1 = z := by
  unfold repS
  simp
theorem repS_nil (z : Str) (k : Nat) (h : z.cps.toList = []) : repS z k = z := by
  unfold repS
  rw [h]
  obtain ⟨c⟩ := z
  have e : c = #[] := by simpa using h
  subst e
  simp
section
variable {X : Cx}
theorem op_mulS : OpR X (binaryOp .Mult) (fun x y H Q => ∃ (z : Str) (k : Nat), x = .str z ∧ y = .int (k : Int) ∧ k ≤ 1000 ∧ z.length ≤ 1000 ∧ Q (.str (repS z k)) H) := by
  intro pins s σ H x y v u Q I rx ry h
  obtain ⟨z, k, rfl, rfl, hk, hz, q⟩ := h
  obtain ⟨t, rfl⟩ := rx
  obtain ⟨t', rfl⟩ := ry
  have hcap : z.length * k ≤ 1000000 := Nat.le_trans (Nat.mul_le_mul hz hk) (by decide)
  refine PySem.P.mul_str (x := z) (n := (k : Int)) (by
      have h1 : ¬ (k : Int) < -(2 ^ 63 : Int) := by omega
      have h2 : ¬ (k : Int) ≥ 2 ^ 63 := by omega
      rw [decide_eq_false h1, decide_eq_false h2]; rfl) (fun h1 _ hh => ?_) (fun h1 _ => ?_) ?_
  · have h3 : (2 ^ 63 - 1 : Int) / (k : Int) ≥ 1000 := by
      refine (Int.le_ediv_iff_mul_le (by omega)).mpr ?_
      omega
    omega
  · rw [Int.toNat_natCast]
    exact notLongL (by rw [sizeLine_eq]; omega)
  · by_cases h1 : (k : Int) < 1
    · rw [if_pos h1]
      have e : k = 0 := by omega
      subst e
      exact ⟨by decide, .str Str.empty, H, I.tok _, ⟨_, rfl⟩, q⟩
    · rw [if_neg h1]
      by_cases h2 : ((k : Int) == 1 || z.length == 0) = true
      · rw [if_pos h2]
        have e : repS z k = z := by
          rcases Bool.or_eq_true_iff.mp h2 with h3 | h3
          · have : k = 1 := by have := of_decide_eq_true h3; omega
            rw [this, repS_one]
          · refine repS_nil z k ?_
            have h4 : z.cps.size = 0 := beq_iff_eq.mp h3
            exact List.eq_nil_of_length_eq_zero (by rw [Array.length_toList]; exact h4)
        rw [e] at q
        exact ⟨.str z, H, I, ⟨_, rfl⟩, q⟩
      · rw [if_neg h2, Int.toNat_natCast, repS_fold]
        refine ⟨?_, .str (repS z k), H, I.tok _, ⟨_, rfl⟩, q⟩
        have : (repS z k).length = k * z.length := by
          show ((List.replicate k z.cps.toList).flatten).toArray.size = k * z.length
          rw [List.size_toArray, List.length_flatten]
          simp
          rfl
        rw [this, sizeLine_eq, Nat.mul_comm]
        omega
end
end Qt
/-! enumerate of a text; a promise without errors out of one with errors. -/
namespace Qt
open PySem PySem.Spec PyProof.Rows L2

/-- the signs of a text with their numbers, in new pairs -/
def Itse (x : Str) : It := ⟨fun i _ => i < x.cps.size, fun i H v H' => ∃ (T : Addr) (c : Nat), v = .ref T ∧ H T = none ∧ H' = upd H T (.tup [.int (i : Nat), .str ⟨#[c]⟩]) ∧ x.cps[i]? = some c, fun i _ => i = x.cps.size⟩
/-- where enumerate over a text stands -/
def AtEnumS (x : Str) (t : Tok) (ty : String) (e it : Addr) (i : Nat) (h : Heap) : Prop := (∃ old, IsEnum h e it ((i : Nat) : Int) old) ∧ h.IsStrIter it ty x t i
theorem draws_str {P : Program} {w : World} {A : Around} {ty : String} (hh : A.handled = none) (hty : ty = "str_ascii_iterator" ∨ ty = "str_iterator") (it : Addr) (x : Str) (t : Tok) :
    Draws P w A it [it] x.cps.size (fun i v => ∃ c u, x.cps[i]? = some c ∧ v = .str ⟨#[c]⟩ u) (fun i h => h.IsStrIter it ty x t i) := by
  rcases hty with e | e
  · rw [e]; exact Draws.strAscii hh it x t
  · rw [e]; exact Draws.strWide hh it x t
theorem turn_enumS {P : Program} {w : World} {K : PySem.W.Frag} {elts : List Expr} {kk : Nat} {tpos : Pos} {x : Str} {t : Tok} {ty : String} (hty : ty = "str_ascii_iterator" ∨ ty = "str_iterator") {e it : Addr} (hne : e ≠ it) :
    Turn P w K (.Tuple elts kk tpos) (Itse x) [e, it] e (fun i h => AtEnumS x t ty e it i h) where
  mem := by simp
  obj := fun i h st b hb => by
    obtain ⟨⟨old, he⟩, o, ho, hc, hd⟩ := st
    have e' : b = e ∨ b = it := by simpa using hb
    rcases e' with z | z
    · rw [z]; exact ⟨_, he, fun v q => nomatch q⟩
    · rw [z]; exact ⟨o, ho, fun v q => by rw [hd] at q; cases q⟩
  keep := fun i h h' st k => by
    obtain ⟨⟨old, he⟩, o, ho, r⟩ := st
    exact ⟨⟨old, k e (by simp) _ he⟩, o, k it (by simp) o ho, r⟩
  item := by
    intro X hP hw hK hc i pins s σ H E I hf st hg
    subst hP hw hK
    obtain ⟨⟨old, he⟩, hit⟩ := st
    have hel : e < s.heap.objs.size := Heap.lt_size he
    have hil : it < s.heap.objs.size := by obtain ⟨_, q, _⟩ := hit; exact Heap.lt_size q
    have W := WalksT.enumerateD (draws_str (P := X.prog) (w := X.w) (A := X.A.in1) (I.ok.hd hc) hty it x t) e hne (by simpa using hne) (by simp)
    refine W.item i s _ _ hg ⟨⟨old, he⟩, hit⟩ fun T vals h' tk hp hT ht hm hk => ?_
    obtain ⟨tt, v, ⟨c, u, hcx, rfl⟩, rfl⟩ := hp
    refine ⟨.ref T, rfl, W.go elts kk tpos i T { s with heap := h', toks := tk } _ _ hm fun h'' hst hk2 => ?_⟩
    obtain ⟨oT, hT1, hT2, nT, hT3⟩ := ht
    have nT' : T ∉ [e, it] := W.apart i T _ hm
    have hT4 : h''.get? T = some oT := hk2 T oT nT' hT1
    have new : ObjOk X.prog X.w (upd H T (.tup [.int (i : Nat), .str ⟨#[c]⟩])) h'' T (.tup [.int (i : Nat), .str ⟨#[c]⟩]) :=
      ⟨by show 2 ≤ sizeLine; decide, [.int i tt, .str ⟨#[c]⟩ u], .cons ⟨_, rfl⟩ (.cons ⟨_, rfl⟩ .nil), ⟨_, hT4, hT2, _, hT3⟩⟩
    have I1 : Inv X pins σ (upd H T (.tup [.int (i : Nat), .str ⟨#[c]⟩])) { s with heap := h'', toks := tk } :=
      I.turnedNew (ch := [e, it]) (fun b ob hb q => hk2 b ob hb (hk b ob hb q)) hf hT new
    refine ⟨.ref T, _, I1, rfl, ⟨T, c, rfl, I.hok.fresh hT, rfl, hcx⟩, hst, fun b hb => ?_⟩
    have hb' : b < s.heap.objs.size := by
      have e' : b = e ∨ b = it := by simpa using hb
      rcases e' with z | z
      · rw [z]; exact hel
      · rw [z]; exact hil
    rw [upd_ne (Nat.ne_of_lt (Nat.lt_of_lt_of_le hb' hT))]
    exact (hf b hb).1
  done := by
    intro X hP hw hK hc i pins s σ H E I hf st hg
    subst hP hw hK
    obtain ⟨⟨old, he⟩, hit⟩ := st
    obtain ⟨f0, f1, f2, f3, f4, f5⟩ := hf it (by simp)
    have D := draws_str (P := X.prog) (w := X.w) (A := X.A.in1) (I.ok.hd hc) hty it x t
    have hi : i = x.cps.size := hg
    rw [hi] at he hit
    exact wpAny_pyNext_enum_endD D he hit fun h' eb => ⟨rfl, I.turned (t' := s.toks) (fun b o hb q => eb b o hb q) f0 f1 f3 f4 f5⟩
  self := fun A i s Q E st h => let ⟨⟨_, he⟩, _⟩ := st; wpAny_pyIter_enum he h
def iEnumS (ta : TA) : TI := fun σ H R => ta σ H fun vs H1 => ∃ x, vs = [.str x] ∧ R (Itse x) H1
theorem pi_enumS {X : Cx} {e : Expr} {ta : TA} {p pos tpos : Pos} {elts : List Expr} {kk : Nat} (hg : Gl X "enumerate") (hm : X.mg "enumerate" = none) (ha : PA X [e] ta) (hs : starEach [e] X.env = [(false, eval e X.env)] := by rfl) :
    PI X (.Tuple elts kk tpos) (.Call (.Name "enumerate" p) [e] [] pos) (iEnumS ta) := by
  refine ⟨fun pins s σ H R I h => ?_⟩
  refine Call_ (ld_blt I hg hm boot_enumerate (PyProof.Rows.callWith_type1 (thn (ha.run pos pins s σ H _ I h) fun us s1 hh => ?_) hs rfl))
  obtain ⟨vs, H1, I1, r1, x, ex, q⟩ := hh
  subst ex
  cases r1 with
  | cons r rr =>
    cases rr
    obtain ⟨t, rfl⟩ := r
    refine call_enumerate_str fun h' he hit hsz hk => wpAny_pyIter_enum he ?_
    have I2 : Inv X pins σ H1 { s1 with heap := h' } := I1.kept (t' := s1.toks) hk
    have hty : strIterType x = "str_ascii_iterator" ∨ strIterType x = "str_iterator" := by
      unfold strIterType
      split
      · exact .inl rfl
      · exact .inr rfl
    refine ⟨s1.heap.objs.size + 1, [s1.heap.objs.size + 1, s1.heap.objs.size], _, _, H1, rfl, I2, turn_enumS (x := x) (t := t) hty (e := s1.heap.objs.size + 1) (it := s1.heap.objs.size) (Nat.succ_ne_self _), ⟨⟨.none, he⟩, hit⟩, fun b hb => ?_, q⟩
    have e' : b = s1.heap.objs.size + 1 ∨ b = s1.heap.objs.size := by simpa using hb
    have hle : s1.heap.objs.size ≤ b := by
      rcases e' with z | z
      · rw [z]; exact Nat.le_add_right _ _
      · rw [z]; exact Nat.le_refl _
    exact I1.fpOk hle (I1.hok.fresh hle)
/-- a promise that lets no error out -/
theorem calm {P : Program} {w : World} {K : PySem.W.Frag} {mg : Str → Option Value} {base : Heap} {k : Nat} {f : Addr} {fd : FuncData} {ps : List Str} {sp sp0 : Sp} (F : FnOk P w K mg base (L2.CX P w) k f fd ps sp)
    (h : ∀ vs H Q E, sp0 vs H Q E → sp vs H Q (fun _ _ _ => False)) : FnOk P w K mg base CX0 k f fd ps sp0 := by
  refine ⟨fun vs H Q E q => F.len vs H Q _ (h vs H Q E q), fun A outer s H args us vs Q E hr he hb hv hs => ?_⟩
  refine codeAny_mono (F.run A outer s H args us vs Q (fun _ _ _ => False) hr he hb hv (h _ _ _ _ hs)) fun r s' q => ?_
  cases r with
  | error er =>
    obtain ⟨a, B, H', cls, d, _, _, _, _, _, _, _, z⟩ := q
    exact z.elim
  | ok fl => cases fl <;> exact q
end Qt
/-! Defs and classes as they stand behind the top; the law's row of draws; data. -/
namespace Qt
open PySem PySem.Spec PyProof.Rows L2 Evl

section
variable (P : Program) (w : World) (K : PySem.W.Frag) (mg : Str → Option Value) (base : Heap)
/-- the def x stands there -/
def Ent (x : Str) (st : Stmt) (ps : List Str) : Prop := ∃ (f : Addr) (fd : FuncData), Fun K x x st f fd ∧ mg x = some (.ref f) ∧ Binds K fd ps []
/-- the def x is there and keeps sp -/
def Cal (CX : CXT) (k : Nat) (x : Str) (ps : List Str) (sp : Sp) : Prop := ∃ (f : Addr) (fd : FuncData), FnOk P w K mg base CX k f fd ps sp ∧ mg x = some (.ref f) ∧ PySem.W.keepIn K (.ref f) = true ∧ Binds K fd ps []
/-- an own error class without an __init__ of its own -/
structure ExcC (x : Str) (C : Addr) : Prop where
  g : mg x = some (.ref C)
  x : PySem.W.excIn K C [.type "ValueError", .type "Exception", .type "BaseException", .type "object"] "ValueError.__new__" = true
  k : PySem.W.keepIn K (.ref C) = true
  b : PySem.W.subIn K (.ref C) (.type "BaseException") = some true
  t : PySem.W.typeIn K (.ref C) = some (.type "type")
/-- an own error class with an __init__ (at fI) that stores the field n -/
structure ExcI (x : Str) (n : Str) (C fI : Addr) : Prop where
  g : mg x = some (.ref C)
  o : OexC K C
  i : PySem.W.findIn K (.ref C) "__init__" = some (some (.ref fI))
  t : PySem.W.typeIn K (.ref fI) = some (.type "function")
  xf : XfC K C
  no : PySem.W.findIn K (.ref C) n = some none
end
/-- the same promise for the calls that let no error out -/
theorem Cal.calm {P : Program} {w : World} {K : PySem.W.Frag} {mg : Str → Option Value} {base : Heap} {k : Nat} {x : Str} {ps : List Str} {sp sp0 : Sp} (c : Cal P w K mg base (L2.CX P w) k x ps sp)
    (h : ∀ vs H Q E, sp0 vs H Q E → sp vs H Q (fun _ _ _ => False)) : Cal P w K mg base CX0 k x ps sp0 := by
  obtain ⟨f, fd, F, m, kp, b⟩ := c
  exact ⟨f, fd, Qt.calm F h, m, kp, b⟩
theorem Cal.imp {P : Program} {w : World} {K : PySem.W.Frag} {mg : Str → Option Value} {base : Heap} {CX : CXT} {k : Nat} {x : Str} {ps : List Str} {sp sp0 : Sp} (c : Cal P w K mg base CX k x ps sp)
    (h : ∀ vs H Q E, sp0 vs H Q E → sp vs H Q E) : Cal P w K mg base CX k x ps sp0 := by
  obtain ⟨f, fd, F, m, kp, b⟩ := c
  exact ⟨f, fd, F.imp h, m, kp, b⟩

/-! ### the law's row of draws -/
def Row (K : PySem.W.Frag) (r sc : Addr) (ns : List Int) (H : Hp) : Prop := ∃ (i s x : Int),
  H r = some (.lst [.ref sc, .int i, .int s, .int x]) ∧ SqL K H sc (ns.map V.int) ∧ ns.length ≤ 1000 ∧ 0 ≤ i ∧ 0 ≤ s ∧ s < 2147483647
/-- what happens where only the row is changed and new objects come -/
def Xr (K : PySem.W.Frag) (r : Addr) (H H' : Hp) : Prop := ∀ a o, a ≠ r → H a = some o → H' a = some o
section
variable {K : PySem.W.Frag} {r : Addr} {H H1 H2 : Hp}
theorem Xr.trans (a : Xr K r H H1) (b : Xr K r H1 H2) : Xr K r H H2 := fun c o n h => b c o n (a c o n h)
theorem Xr.of (e : Ex H H1) : Xr K r H H1 := fun a o _ h => e a o h
/-- the script stays where it is -/
theorem Row.sq {sc : Addr} {ns : List Int} (h : Row K r sc ns H) (X : Xr K r H H1) : SqL K H1 sc (ns.map V.int) := by
  obtain ⟨i, s, x, h1, h3, h4⟩ := h
  rcases h3 with (h3 | ⟨o, h3⟩) | h3
  · have ne : sc ≠ r := fun z => by
      rw [z, h1] at h3
      cases ns with
      | nil => cases h3
      | cons n l => injection h3 with h3; injection h3 with h3; cases h3
    exact .inl (.inl (X _ _ ne h3))
  · have ne : sc ≠ r := fun z => by rw [z, h1] at h3; cases h3
    exact .inl (.inr ⟨o, X _ _ ne h3⟩)
  · exact .inr h3
end
/-- _law_taken(row, many) -/
def spTaken (K : PySem.W.Frag) : Sp := fun vs H Q _ => ∃ (r sc : Addr) (ns : List Int) (m : Int), vs = [.ref r, .int m] ∧ 1 ≤ m ∧ m ≤ 1000000 ∧ Row K r sc ns H ∧
  ∀ (n : Int) (H' : Hp), 0 ≤ n → n < m → Xr K r H H' → Row K r sc ns H' → Q (.int n) H'

/-! ### values -/
/-- a value whose class is a built-in one -/
def Kind (K : PySem.W.Frag) (H : Hp) (v : V) (t : String) : Prop := TyX K H v (.type t)
theorem Kind.ex {K : PySem.W.Frag} {H H1 : Hp} {v : V} {t : String} (h : Kind K H v t) (e : Ex H H1) : Kind K H1 v t := by
  unfold Kind at *
  generalize ht : Value.type t = tv at h
  cases h with
  | base b =>
    cases b with
    | non => exact .base .non
    | bl x => exact .base (.bl x)
    | int i => exact .base (.int i)
    | str x => exact .base (.str x)
    | flt x => exact .base (.flt x)
    | lst q => exact .base (.lst (e _ _ q))
    | frz q => exact .base (.frz (e _ _ q))
    | tup q => exact .base (.tup (e _ _ q))
    | dK q => exact .base (.dK (e _ _ q))
    | dT q => exact .base (.dT (e _ _ q))
    | ins => cases ht
  | byt b => exact .byt b
  | set q => exact .set (e _ _ q)
  | kList q c => exact .kList q c
  | kTuple q c => exact .kTuple q c
  | kDict q c => exact .kDict q c
  | fTuple q => exact .fTuple (e _ _ q)
  | fDict q => exact .fDict (e _ _ q)
/-- the data of a value, at most one tuple of flat things deep, as an error's field keeps it -/
def Flat : PyData → Prop
  | .none => True
  | .bool _ => True
  | .int _ => True
  | .str _ => True
  | _ => False
def Keeps (d : PyData) : Prop := Flat d ∨ ∃ e, Flat e ∧ d = .tuple [e]
end Qt
/-! Comprehensions over texts; lists of signs. -/
namespace Qt
open PySem PySem.Spec PyProof.Rows L2 Evl
theorem walk_enumS {x : Str} : Walk (Itse x) x.cps.size (fun _ => True) (fun i H v H' => ∃ (T : Addr) (c : Nat), v = .ref T ∧ H T = none ∧ H' = upd H T (.tup [.int (i : Nat), .str ⟨#[c]⟩]) ∧ x.cps[i]? = some c) :=
  ⟨fun _ _ h _ => h, fun _ _ => rfl, fun _ _ _ _ _ _ h => h⟩
section
variable {K : PySem.W.Frag} {σ : L2.St} {H : Hp} {te tl : TE} {t : TT} {ta : TA}
/-- the i-th sign of a text, as a text -/
def sg (z : Str) (i : Nat) : V := .str ⟨#[z.cps.toList.getD i 0]⟩
theorem sg_of {z : Str} {i c : Nat} (h : z.cps[i]? = some c) : V.str ⟨#[c]⟩ = sg z i := by
  unfold sg
  have h2 : z.cps.toList[i]? = some c := by rw [Array.getElem?_toList]; exact h
  rw [List.getD_eq_getElem?_getD, h2]
  rfl
/-- over the signs of a text -/
theorem el_lcS {z : Str} {j : Nat} {vs : List Nat} (f : Nat → Bool) (v : Nat → V) (h : Ev tl σ H (.str z)) (hz : z.length ≤ 40000) (hw : ∀ x, wipe ((wipe σ vs).set j (some x)) vs = wipe σ vs)
    (ht : ∀ (i : Nat) H1, Ex H H1 → i < z.length → EvT t ((wipe σ vs).set j (some (sg z i))) H1 (f i)) (he : ∀ (i : Nat) H1, Ex H H1 → i < z.length → f i = true → Ev te ((wipe σ vs).set j (some (sg z i))) H1 (v i)) :
    EvL (tLc (iStr tl) (gName j) t te vs) σ H (given z.length f v) := fun H0 e Q q => h H0 e _ fun H1 e1 => ⟨z, rfl, fun Dl hD =>
  lc_it walk_str (Cw H1 f v Dl) ⟨hD, Ex.new hD, upd_same⟩ (fun _ _ _ _ => trivial) (fun i x H2 H' hi p y => by
    obtain ⟨rfl, c, hc, rfl⟩ := y
    have hi' : i < z.length := hi
    rw [sg_of hc]
    exact ⟨hw _, cw_turn p (by omega) (ht i H1 (e.trans e1) hi') (fun hf => he i H1 (e.trans e1) hi' hf)⟩) (fun H' p => q Dl H' (fresh_back e1 p.1) (e1.trans p.2.1) p.2.2)⟩
/-- over the numbered signs of a text -/
theorem el_lcSE {z : Str} {j k : Nat} {vs : List Nat} (f : Nat → Bool) (v : Nat → V) (h : EvA ta σ H [.str z]) (hz : z.length ≤ 40000)
    (hw : ∀ x y, wipe (((wipe σ vs).set j (some x)).set k (some y)) vs = wipe σ vs)
    (ht : ∀ (i : Nat) H1, Ex H H1 → i < z.length → EvT t (((wipe σ vs).set j (some (.int (i : Int)))).set k (some (sg z i))) H1 (f i))
    (he : ∀ (i : Nat) H1, Ex H H1 → i < z.length → f i = true → Ev te (((wipe σ vs).set j (some (.int (i : Int)))).set k (some (sg z i))) H1 (v i)) :
    EvL (tLc (iEnumS ta) (gTup K 2 (gCons (gName j) (gCons (gName k) gNil))) t te vs) σ H (given z.length f v) := fun H0 e Q q => h H0 e _ fun H1 e1 => ⟨z, rfl, fun Dl hD =>
  lc_it walk_enumS (Cw H1 f v Dl) ⟨hD, Ex.new hD, upd_same⟩ (fun _ _ _ _ => trivial) (fun i x H2 H' hi p y => by
    obtain ⟨T, c, rfl, nT, rfl, hc⟩ := y
    have hi' : i < z.length := hi
    obtain ⟨p1, p2, p3⟩ := p
    have nTD : Dl ≠ T := ne_of_none p3 nT
    have p' : Cw H1 f v Dl i (upd H2 T (.tup [.int (i : Nat), .str ⟨#[c]⟩])) := ⟨p1, p2.trans (Ex.new nT), by rw [upd_ne nTD]; exact p3⟩
    refine ⟨T, _, rfl, st_of upd_same, rfl, _, _, rfl, _, _, rfl, rfl, ?_⟩
    rw [sg_of hc] at p' ⊢
    exact ⟨hw _ _, cw_turn p' (by omega) (ht i H1 (e.trans e1) hi') (fun hf => he i H1 (e.trans e1) hi' hf)⟩) (fun H' p => q Dl H' (fresh_back e1 p.1) (e1.trans p.2.1) p.2.2)⟩
/-- ... without a test -/
theorem et_yes : EvT tYes σ H true := fun H1 _ _ q => q H1 (Ex.refl H1)
theorem given_all (n : Nat) (v : Nat → V) : given n (fun _ => true) v = (List.range n).map v := by
  unfold given
  rw [List.filter_eq_self.mpr (fun _ _ => rfl)]
/-- a call of a new list -/
theorem ev_cbL {r : List V → Hp → VK → Prop} {xs : List V} {z : V} (h : EvL te σ H xs) (hr : ∀ p H1, H1 p = some (.lst xs) → Ex H H1 → RC r [.ref p] H1 z) : Ev (tCB r (tCons te tNil)) σ H z := fun H1 e Q q =>
  h H1 e _ fun p H2 _ e2 h2 => hr p H2 h2 (e.trans e2) H2 (Ex.refl H2) Q fun H3 e3 => q H3 (e2.trans e3)
theorem rc_all {p : Addr} {bs : List Bool} (h : H p = some (.lst (bs.map V.bl))) : RC (rAll K) [.ref p] H (.bl (bs.all id)) := fun H1 e Q q => ⟨p, bs, rfl, sq_of (e _ _ h), q H1 (Ex.refl H1)⟩
/-- a text sign by sign -/
theorem ev_inSign {c : Nat} {z : Str} {ta tb : TE} (ha : Ev ta σ H (.str ⟨#[c]⟩)) (hb : Ev tb σ H (.str z)) :
    Ev (tOp (fun x y H Q => ∃ (c : Nat) (z : Str), x = .str ⟨#[c]⟩ ∧ y = .str z ∧ Q (.bl (decide (c ∈ z.cps.toList))) H) ta tb) σ H (.bl (decide (c ∈ z.cps.toList))) :=
  ev_op ha hb fun H1 _ _ q => ⟨c, z, rfl, rfl, q H1 (Ex.refl H1)⟩
end
theorem all_range (l : List Nat) (p : Nat → Bool) : ((List.range l.length).map fun i => p (l.getD i 0)).all id = l.all p := by
  rw [List.all_map, Bool.eq_iff_iff, List.all_eq_true, List.all_eq_true]
  constructor
  · intro h c hc
    obtain ⟨i, hi, e⟩ := List.getElem_of_mem hc
    have := h i (List.mem_range.mpr hi)
    simp only [Function.comp, id, List.getD_eq_getElem?_getD, List.getElem?_eq_getElem hi, Option.getD_some] at this
    rw [← e]
    exact this
  · intro h i hi
    have hi' := List.mem_range.mp hi
    simp only [Function.comp, id, List.getD_eq_getElem?_getD, List.getElem?_eq_getElem hi', Option.getD_some]
    exact h _ (List.getElem_mem hi')
end Qt
/-! Lists put together, texts joined, membership. -/
namespace Qt
open PySem PySem.Spec PyProof.Rows L2 Evl
/-! within a comprehension's block the written part is named, since its own is told by what is not known outside -/
theorem op_in_seqK {X : Cx} (K : PySem.W.Frag) (h : X.K = K) : OpR X (compareOp .In) (rIn K false) := h ▸ op_in_seq
theorem op_notIn_seqK {X : Cx} (K : PySem.W.Frag) (h : X.K = K) : OpR X (compareOp .NotIn) (rIn K true) := h ▸ op_notIn_seq
theorem ix_listK {X : Cx} (K : PySem.W.Frag) (h : X.K = K) : IxR X (rIxL K) := h ▸ ix_list
theorem ix_tupK {X : Cx} (K : PySem.W.Frag) (h : X.K = K) : IxR X (rIxT K) := h ▸ ix_tup
theorem sl_listK {X : Cx} (K : PySem.W.Frag) (h : X.K = K) : SlR X (rSlL K) := h ▸ sl_list
section
variable {K : PySem.W.Frag} {σ : L2.St} {H : Hp} {ta tb te tl : TE} {t : TT}
theorem el_cat {xs ys : List V} (ha : EvL ta σ H xs) (hb : ∀ H1, Ex H H1 → EvL tb σ H1 ys) (hz : xs.length + ys.length ≤ 100000) : EvL (tOp rCat ta tb) σ H (xs ++ ys) := fun H1 e Q q =>
  ha H1 e _ fun p H2 np e2 h2 => hb H2 (e.trans e2) H2 (Ex.refl H2) _ fun b H3 nb e3 h3 => ⟨p, b, xs, ys, rfl, rfl, e3 _ _ h2, h3, sz_of hz, fun l hl => q l _ (fresh_back (e2.trans e3) hl) ((e2.trans e3).trans (Ex.new hl)) upd_same⟩
theorem str_app (a b : Str) : (a ++ b).cps.toList = a.cps.toList ++ b.cps.toList := by
  show (a.cps ++ b.cps).toList = _
  simp
theorem sjoin_flat {sep : Str} (hs : sep.cps.toList = []) : ∀ ys : List Str, (Str.join sep ys).cps.toList = (ys.map (·.cps.toList)).flatten
  | [] => rfl
  | [x] => by
    show x.cps.toList = _
    simp
  | x :: y :: r => by
    show (x ++ sep ++ Str.join sep (y :: r)).cps.toList = _
    rw [str_app, str_app, hs, sjoin_flat hs (y :: r)]
    simp
theorem join_flat {sep : Str} (hs : sep.cps.toList = []) (ys : List Str) : (Txt.join sep ys).cps.toList = (ys.map (·.cps.toList)).flatten := by
  show (Builtin.Str.glued sep ys).cps.toList = _
  rw [StrLaws.glued_eq_join, sjoin_flat hs]
theorem str_ext {a b : Str} (h : a.cps.toList = b.cps.toList) : a = b := by
  obtain ⟨x⟩ := a
  obtain ⟨y⟩ := b
  congr 1
  exact Array.toList_inj.mp h
/-- a text of these signs -/
def txt (l : List Nat) : Str := ⟨l.toArray⟩
theorem txt_l (l : List Nat) : (txt l).cps.toList = l := by simp [txt]
theorem txt_len (l : List Nat) : (txt l).length = l.length := by simp [txt, Str.length]
theorem len_l (z : Str) : z.cps.toList.length = z.length := by simp [Str.length]
theorem join_signs {sep : Str} (hs : sep.cps.toList = []) (l : List Nat) : Txt.join sep (l.map fun c => (⟨#[c]⟩ : Str)) = txt l := by
  apply str_ext
  rw [join_flat hs, txt_l, List.map_map]
  induction l with
  | nil => rfl
  | cons c r ih =>
    rw [List.map_cons, List.flatten_cons, ih]
    rfl
theorem sum_signs : ∀ l : List Nat, ((l.map fun c => (⟨#[c]⟩ : Str)).map (·.length)).sum = l.length
  | [] => rfl
  | c :: r => by
    rw [List.map_cons, List.map_cons, List.sum_cons, sum_signs r, List.length_cons, Nat.add_comm]
    rfl
/-- ''.join of a new list of signs -/
theorem ev_join {sep : Str} {l : List Nat} (hs : sep.cps.toList = []) (h : EvL te σ H (l.map fun c => V.str ⟨#[c]⟩)) (hz : l.length ≤ 100000) :
    Ev (tM1 (fun x xs H Q => ∃ a p, ∃ ys : List Str, x = .str a ∧ xs = [.ref p] ∧ (SqL K H p (ys.map V.str) ∨ SqT K H p (ys.map V.str)) ∧ (ys.map (·.length)).sum + ys.length * a.length ≤ 16777216 ∧ Q (.str (Txt.join a ys)) H) (tC (.str sep)) te) σ H (.str (txt l)) := fun H1 e Q q =>
  ⟨⟨sep, rfl⟩, h H1 e _ fun p H2 np e2 h2 => ⟨sep, p, l.map fun c => (⟨#[c]⟩ : Str), rfl, rfl, .inl (sq_of (by rw [h2, List.map_map]; rfl)), by
    have e0 : sep.length = 0 := by rw [← len_l, hs]; rfl
    rw [e0, sum_signs]
    omega, by
    rw [join_signs hs]
    exact q H2 e2⟩⟩
theorem inV_ints {i : Int} {ns : List Int} : inV (.int i) (ns.map V.int) = decide (i ∈ ns) := by
  unfold inV
  rw [List.any_map, Bool.eq_iff_iff, List.any_eq_true, decide_eq_true_iff]
  constructor
  · rintro ⟨x, hx, e⟩
    have e' : (x == i) = true := e
    rw [← beq_iff_eq.mp e']
    exact hx
  · intro h
    exact ⟨i, h, by show (i == i) = true; exact beq_self_eq_true i⟩
theorem flat_ints (ns : List Int) : (ns.map V.int).all flatV = true := by
  rw [List.all_map, List.all_eq_true]
  intro x _
  rfl
theorem rc_lenS {z : Str} (h : z.length ≤ 100000) : RC (fun xs H Q => ∃ z : Str, xs = [.str z] ∧ z.length ≤ sizeLine ∧ Q (.int (z.length : Int)) H) [.str z] H (.int (z.length : Int)) := fun H1 _ _ q => ⟨z, rfl, sz_of h, q H1 (Ex.refl H1)⟩
end
end Qt
/-! Data that is compared. -/
namespace Qt
open PySem PySem.Spec PyProof.Rows L2 Evl
theorem lay_all : ∀ {ds : List PyData}, (∀ d ∈ ds, d.canLay0 = true) → PyData.canLayAll0 ds = true
  | [], _ => rfl
  | d :: r, h => by
    have h1 := h d List.mem_cons_self
    have h2 := lay_all (ds := r) fun x hx => h x (List.mem_cons_of_mem _ hx)
    show (d.canLay0 && PyData.canLayAll0 r) = true
    rw [h1, h2]
    rfl
theorem depth_all {n : Nat} : ∀ {ds : List PyData}, (∀ d ∈ ds, d.depth ≤ n) → PyData.depthAll ds ≤ n
  | [], _ => Nat.zero_le _
  | d :: r, h => by
    have h1 := h d List.mem_cons_self
    have h2 := depth_all (ds := r) fun x hx => h x (List.mem_cons_of_mem _ hx)
    show max d.depth (PyData.depthAll r) ≤ n
    omega
theorem shaped_list {ds : List PyData} (h : ∀ d ∈ ds, d.canLay0 = true ∧ d.depth ≤ 10) : SeqAt.shaped (.list ds) = true := by
  unfold SeqAt.shaped
  have h1 : (PyData.list ds).canLay0 = true := lay_all fun d hd => (h d hd).1
  have h2 : PyData.depthAll ds ≤ 10 := depth_all fun d hd => (h d hd).2
  have h3 : (PyData.list ds).depth ≤ 64 := by
    show PyData.depthAll ds + 1 ≤ 64
    omega
  rw [h1, decide_eq_true h3]
  rfl
def dInts (l : List Int) : PyData := .list (l.map PyData.int)
section
variable {K : PySem.W.Frag} {H : Hp}
/-- != of two that are the same -/
theorem ne_same {x y : V} {d : PyData} {Q : VK} (a : Dp K H x d) (b : Dp K H y d) (s : SeqAt.shaped d = true) (q : Q (.bl false) H) : rNeD K x y H Q := by
  refine ⟨d, d, a, b, s, s, ?_⟩
  have e : PyData.eqv d d = true := SeqAt.eqv_refl d (SeqAt.canLay_of_shaped s)
  rw [e]
  exact q
theorem eq_same {x y : V} {d : PyData} {Q : VK} (a : Dp K H x d) (b : Dp K H y d) (s : SeqAt.shaped d = true) (q : Q (.bl true) H) : rEqD K x y H Q := by
  refine ⟨d, d, a, b, s, s, ?_⟩
  have e : PyData.eqv d d = true := SeqAt.eqv_refl d (SeqAt.canLay_of_shaped s)
  rw [e]
  exact q
theorem rv_ne_same {x y : V} {d : PyData} (a : ∀ H1, Ex H H1 → Dp K H1 x d) (b : ∀ H1, Ex H H1 → Dp K H1 y d) (s : SeqAt.shaped d = true) : RV (rNeD K) x y H (.bl false) := fun H1 e Q q => ne_same (a H1 e) (b H1 e) s (q H1 (Ex.refl H1))
end
end Qt
/-! zip of two texts. -/
namespace Qt
open PySem PySem.Spec PyProof.Rows L2 Evl
/-- the signs of two texts, side by side, in new pairs -/
def Itzs (x y : Str) : It := ⟨fun i _ => i < min x.cps.size y.cps.size, fun i H v H' => ∃ (T : Addr) (c d : Nat), v = .ref T ∧ H T = none ∧ H' = upd H T (.tup [.str ⟨#[c]⟩, .str ⟨#[d]⟩]) ∧ x.cps[i]? = some c ∧ y.cps[i]? = some d, fun i _ => i = min x.cps.size y.cps.size⟩
def AtZipS (x y : Str) (t u : Tok) (z TI TO i1 i2 : Addr) (i : Nat) (h : Heap) : Prop := IsZip h z TI TO .none ∧ IsTupOf2 h TI (.ref i1) (.ref i2) ∧ (∃ a1 a2, IsTupOf2 h TO a1 a2) ∧ h.IsStrIter i1 (strIterType x) x t i ∧ h.IsStrIter i2 (strIterType y) y u i
theorem turn_zipS {P : Program} {w : World} {K : PySem.W.Frag} {elts : List Expr} {kk : Nat} {tpos : Pos} {x y : Str} {t u : Tok} {z TI TO i1 i2 : Addr} (D : ZipSep2 z TI TO i1 i2 [i1] [i2]) :
    Turn P w K (.Tuple elts kk tpos) (Itzs x y) [z, TI, TO, i1, i2] z (fun i h => AtZipS x y t u z TI TO i1 i2 i h) where
  mem := by simp
  obj := fun i h st c hc => by
    obtain ⟨hz, hTI, ⟨a, b, hTO⟩, ⟨o1, e1, _, d1⟩, ⟨o2, e2, _, d2⟩⟩ := st
    have e' : c = z ∨ c = TI ∨ c = TO ∨ c = i1 ∨ c = i2 := by simpa using hc
    rcases e' with q | q | q | q | q
    · rw [q]; exact ⟨_, hz, fun v q => nomatch q⟩
    · rw [q]; exact ⟨_, hTI, fun v q => nomatch q⟩
    · rw [q]; exact ⟨_, hTO, fun v q => nomatch q⟩
    · rw [q]; exact ⟨o1, e1, fun v q => by rw [d1] at q; cases q⟩
    · rw [q]; exact ⟨o2, e2, fun v q => by rw [d2] at q; cases q⟩
  keep := fun i h h' st k => by
    obtain ⟨hz, hTI, ⟨a, b, hTO⟩, ⟨o1, e1, r1⟩, ⟨o2, e2, r2⟩⟩ := st
    exact ⟨k z (by simp) _ hz, k TI (by simp) _ hTI, ⟨a, b, k TO (by simp) _ hTO⟩, ⟨o1, k i1 (by simp) _ e1, r1⟩, ⟨o2, k i2 (by simp) _ e2, r2⟩⟩
  item := by
    intro X hP hw hK hc i pins s σ H E I hf st hg
    subst hP hw hK
    have W := WalksT.zipD2 D (Draws.text (prog := X.prog) (w := X.w) (A := X.A.in1) (I.ok.hd hc) i1 x t) (Draws.text (prog := X.prog) (w := X.w) (A := X.A.in1) (I.ok.hd hc) i2 y u)
    have live : ∀ b ∈ [z, TI, TO, i1, i2], b < s.heap.objs.size := fun b hb => by
      obtain ⟨hz, hTI, ⟨a, b', hTO⟩, ⟨o1, e1, _, d1⟩, ⟨o2, e2, _, d2⟩⟩ := st
      have e' : b = z ∨ b = TI ∨ b = TO ∨ b = i1 ∨ b = i2 := by simpa using hb
      rcases e' with q | q | q | q | q
      · rw [q]; exact Heap.lt_size hz
      · rw [q]; exact Heap.lt_size hTI
      · rw [q]; exact Heap.lt_size hTO
      · rw [q]; exact Heap.lt_size e1
      · rw [q]; exact Heap.lt_size e2
    refine W.item i s _ _ hg st fun T vals h' tk hp hT ht hm hk => ?_
    obtain ⟨v1, v2, ⟨c, t1, hcx, rfl⟩, ⟨d, t2, hdy, rfl⟩, rfl⟩ := hp
    refine ⟨.ref T, rfl, W.go elts kk tpos i T { s with heap := h', toks := tk } _ _ hm fun h'' hst hk2 => ?_⟩
    obtain ⟨oT, hT1, hT2, nT, hT3⟩ := ht
    have nT' : T ∉ [z, TO, i1, i2] := W.apart i T _ hm
    have hT4 : h''.get? T = some oT := hk2 T oT nT' hT1
    have new : ObjOk X.prog X.w (upd H T (.tup [.str ⟨#[c]⟩, .str ⟨#[d]⟩])) h'' T (.tup [.str ⟨#[c]⟩, .str ⟨#[d]⟩]) :=
      ⟨by show 2 ≤ sizeLine; decide, [.str ⟨#[c]⟩ t1, .str ⟨#[d]⟩ t2], .cons ⟨_, rfl⟩ (.cons ⟨_, rfl⟩ .nil), ⟨_, hT4, hT2, _, hT3⟩⟩
    have sub : ∀ b, b ∉ [z, TI, TO, i1, i2] → b ∉ [z, TO, i1, i2] := fun b hb h => hb (by
      have e' : b = z ∨ b = TO ∨ b = i1 ∨ b = i2 := by simpa using h
      rcases e' with q | q | q | q <;> simp [q])
    have I1 : Inv X pins σ (upd H T (.tup [.str ⟨#[c]⟩, .str ⟨#[d]⟩])) { s with heap := h'', toks := tk } :=
      I.turnedNew (ch := [z, TI, TO, i1, i2]) (fun b ob hb q => hk2 b ob (sub b hb) (hk b ob (sub b hb) q)) hf hT new
    refine ⟨.ref T, _, I1, rfl, ⟨T, c, d, rfl, I.hok.fresh hT, rfl, hcx, hdy⟩, hst, fun b hb => ?_⟩
    rw [upd_ne (Nat.ne_of_lt (Nat.lt_of_lt_of_le (live b hb) hT))]
    exact (hf b hb).1
  done := by
    intro X hP hw hK hc i pins s σ H E I hf st hg
    subst hP hw hK
    have W := WalksT.zipD2 D (Draws.text (prog := X.prog) (w := X.w) (A := X.A.in1) (I.ok.hd hc) i1 x t) (Draws.text (prog := X.prog) (w := X.w) (A := X.A.in1) (I.ok.hd hc) i2 y u)
    have hi : i = min x.cps.size y.cps.size := hg
    have st' : AtZipS x y t u z TI TO i1 i2 (min x.cps.size y.cps.size) s.heap := hi ▸ st
    have sub : ∀ b, b ∉ [z, TI, TO, i1, i2] → b ∉ [z, TO, i1, i2] := fun b hb h => hb (by
      have e' : b = z ∨ b = TO ∨ b = i1 ∨ b = i2 := by simpa using h
      rcases e' with q | q | q | q <;> simp [q])
    exact W.done s _ _ st' fun h' tk hk => ⟨rfl, I.turnedL (t' := tk) (ch := [z, TI, TO, i1, i2]) (fun c o hb q => hk c o (sub c hb) q) hf⟩
  self := fun A i s Q E st h => wpAny_pyIter_zip st.1 h
def iZipS (ta : TA) : TI := fun σ H R => ta σ H fun vs H1 => ∃ x y, vs = [.str x, .str y] ∧ R (Itzs x y) H1
theorem pi_zipS {X : Cx} {e e2 : Expr} {ta : TA} {p pos tpos : Pos} {elts : List Expr} {kk : Nat} (hg : Gl X "zip") (hm : X.mg "zip" = none) (ha : PA X [e, e2] ta)
    (hs : starEach [e, e2] X.env = (false, eval e X.env) :: starEach [e2] X.env := by rfl) (hpl : (backTo pos (starEach [e2] X.env)).any (·.1) = false := by rfl) :
    PI X (.Tuple elts kk tpos) (.Call (.Name "zip" p) [e, e2] [] pos) (iZipS ta) := by
  refine ⟨fun pins s σ H R I h => ?_⟩
  refine Call_ (ld_blt I hg hm PyProof.Rows.boot_zip (PyProof.Rows.callWith_type1 (thn (ha.run pos pins s σ H _ I h) fun us s1 hh => ?_) hs hpl))
  obtain ⟨vs, H1, I1, r1, x, y, ex, q⟩ := hh
  subst ex
  cases r1 with
  | cons r rr =>
    cases rr with
    | cons r' rr =>
      cases rr
      obtain ⟨t, rfl⟩ := r
      obtain ⟨u, rfl⟩ := r'
      refine zip_begins2 (begins_text x t) (begins_text y u) trivial trivial fun h' hz hTI hTO g1 g2 hsz hk => wpAny_pyIter_zip hz ?_
      have I2 : Inv X pins σ H1 { s1 with heap := h' } := I1.kept (t' := s1.toks) hk
      have D : ZipSep2 (s1.heap.objs.size + 4) (s1.heap.objs.size + 2) (s1.heap.objs.size + 3) s1.heap.objs.size (s1.heap.objs.size + 1) [s1.heap.objs.size] [s1.heap.objs.size + 1] := by
        generalize s1.heap.objs.size = n
        constructor <;> (try simp only [List.mem_singleton]) <;> (show _ → False; intro (z : (_ : Nat) = _); omega) <;> omega
      refine ⟨s1.heap.objs.size + 4, [s1.heap.objs.size + 4, s1.heap.objs.size + 2, s1.heap.objs.size + 3, s1.heap.objs.size, s1.heap.objs.size + 1], _, _, H1, rfl, I2, turn_zipS D, ⟨hz, hTI, ⟨_, _, hTO⟩, ⟨_, g1, rfl, rfl⟩, ⟨_, g2, rfl, rfl⟩⟩, fun c hcm => ?_, q⟩
      have e' : c = s1.heap.objs.size + 4 ∨ c = s1.heap.objs.size + 2 ∨ c = s1.heap.objs.size + 3 ∨ c = s1.heap.objs.size ∨ c = s1.heap.objs.size + 1 := by simpa using hcm
      have hle : s1.heap.objs.size ≤ c := by
        rcases e' with z | z | z | z | z
        · rw [z]; exact Nat.le_add_right _ _
        · rw [z]; exact Nat.le_add_right _ _
        · rw [z]; exact Nat.le_add_right _ _
        · rw [z]; exact Nat.le_refl _
        · rw [z]; exact Nat.le_add_right _ _
      exact I1.fpOk hle (I1.hok.fresh hle)
end Qt
/-! Comprehensions over pairs; counting signs; a tuple of one taken many times. -/
namespace Qt
open PySem PySem.Spec PyProof.Rows L2 Evl
theorem walk_zipS {x y : Str} : Walk (Itzs x y) (min x.cps.size y.cps.size) (fun _ => True) (fun i H v H' => ∃ (T : Addr) (c d : Nat), v = .ref T ∧ H T = none ∧ H' = upd H T (.tup [.str ⟨#[c]⟩, .str ⟨#[d]⟩]) ∧ x.cps[i]? = some c ∧ y.cps[i]? = some d) :=
  ⟨fun _ _ h _ => h, fun _ _ => rfl, fun _ _ _ _ _ _ h => h⟩
section
variable {K : PySem.W.Frag} {σ : L2.St} {H : Hp} {te tl to : TE} {t : TT} {ta : TA}
/-- over the signs of two texts of one length -/
theorem el_lcZS {x y : Str} {j k : Nat} {vs : List Nat} (f : Nat → Bool) (v : Nat → V) (h : EvA ta σ H [.str x, .str y]) (hz : x.length ≤ 40000) (hl : y.length = x.length)
    (hw : ∀ a b, wipe (((wipe σ vs).set j (some a)).set k (some b)) vs = wipe σ vs)
    (ht : ∀ (i : Nat) H1, Ex H H1 → i < x.length → EvT t (((wipe σ vs).set j (some (sg x i))).set k (some (sg y i))) H1 (f i))
    (he : ∀ (i : Nat) H1, Ex H H1 → i < x.length → f i = true → Ev te (((wipe σ vs).set j (some (sg x i))).set k (some (sg y i))) H1 (v i)) :
    EvL (tLc (iZipS ta) (gTup K 2 (gCons (gName j) (gCons (gName k) gNil))) t te vs) σ H (given x.length f v) := fun H0 e Q q => h H0 e _ fun H1 e1 => ⟨x, y, rfl, fun Dl hD => by
  have hm : min x.cps.size y.cps.size = x.length := by
    have : y.cps.size = x.cps.size := hl
    rw [this, Nat.min_self]
    rfl
  refine lc_it walk_zipS (Cw H1 f v Dl) ⟨hD, Ex.new hD, upd_same⟩ (fun _ _ _ _ => trivial) (fun i z H2 H' hi p y' => ?_) (fun H' p => ?_)
  · obtain ⟨T, c, d, rfl, nT, rfl, hc, hd⟩ := y'
    have hi' : i < x.length := by rw [← hm]; exact hi
    obtain ⟨p1, p2, p3⟩ := p
    have nTD : Dl ≠ T := ne_of_none p3 nT
    have p' : Cw H1 f v Dl i (upd H2 T (.tup [.str ⟨#[c]⟩, .str ⟨#[d]⟩])) := ⟨p1, p2.trans (Ex.new nT), by rw [upd_ne nTD]; exact p3⟩
    refine ⟨T, _, rfl, st_of upd_same, rfl, _, _, rfl, _, _, rfl, rfl, ?_⟩
    rw [sg_of hc, sg_of hd] at p' ⊢
    exact ⟨hw _ _, cw_turn p' (by omega) (ht i H1 (e.trans e1) hi') (fun hf => he i H1 (e.trans e1) hi' hf)⟩
  · rw [hm] at p
    exact q Dl H' (fresh_back e1 p.1) (e1.trans p.2.1) p.2.2⟩
/-- over the numbered items of a list -/
theorem el_lcLE {a : Addr} {xs : List V} {j k : Nat} {vs : List Nat} (f : Nat → Bool) (v : Nat → V) (h : EvA ta σ H [.ref a]) (hx : SqL K H a xs) (hz : xs.length ≤ 40000)
    (hw : ∀ a b, wipe (((wipe σ vs).set j (some a)).set k (some b)) vs = wipe σ vs)
    (ht : ∀ (i : Nat) y H1, Ex H H1 → xs[i]? = some y → EvT t (((wipe σ vs).set j (some (.int (i : Int)))).set k (some y)) H1 (f i))
    (he : ∀ (i : Nat) y H1, Ex H H1 → xs[i]? = some y → f i = true → Ev te (((wipe σ vs).set j (some (.int (i : Int)))).set k (some y)) H1 (v i)) :
    EvL (tLc (iEnum K ta) (gTup K 2 (gCons (gName j) (gCons (gName k) gNil))) t te vs) σ H (given xs.length f v) := fun H0 e Q q => h H0 e _ fun H1 e1 => ⟨a, xs, rfl, ex_l (e.trans e1) hx, fun Dl hD => by
  refine lc_it (walk_enum (xs := xs)) (Cw H1 f v Dl) ⟨hD, Ex.new hD, upd_same⟩ (fun _ _ _ p => ex_l p.2.1 (ex_l (e.trans e1) hx)) (fun i z H2 H' hi p y' => ?_) (fun H' p => ?_)
  · obtain ⟨T, n, y, rfl, nT, rfl, hn, hy⟩ := y'
    obtain rfl : V.int (i : Nat) = n := Option.some.inj hn
    obtain ⟨p1, p2, p3⟩ := p
    have nTD : Dl ≠ T := ne_of_none p3 nT
    have p' : Cw H1 f v Dl i (upd H2 T (.tup [.int (i : Nat), y])) := ⟨p1, p2.trans (Ex.new nT), by rw [upd_ne nTD]; exact p3⟩
    refine ⟨T, _, rfl, st_of upd_same, rfl, _, _, rfl, _, _, rfl, rfl, ?_⟩
    exact ⟨hw _ _, cw_turn p' (by omega) (ht i y H1 (e.trans e1) hy) (fun hf => he i y H1 (e.trans e1) hy hf)⟩
  · exact q Dl H' (fresh_back e1 p.1) (e1.trans p.2.1) p.2.2⟩
/-- the length of a new list -/
theorem rc_lenL {a : Addr} {xs : List V} (h : SqL K H a xs) : RC (fun xs H Q => ∃ x n, xs = [x] ∧ LenV K x H n ∧ Q (.int (n : Int)) H) [.ref a] H (.int (xs.length : Int)) := fun H1 e _ q =>
  ⟨.ref a, xs.length, rfl, .inl ⟨xs, ex_l e h, rfl⟩, q H1 (Ex.refl H1)⟩
theorem ev_lenL {xs : List V} (h : EvL te σ H xs) : Ev (tCB (fun xs H Q => ∃ x n, xs = [x] ∧ LenV K x H n ∧ Q (.int (n : Int)) H) (tCons te tNil)) σ H (.int (xs.length : Int)) := ev_cbL h fun _ _ hp _ => rc_lenL (sq_of hp)
theorem cnt_len (c : Nat) : ∀ l : List Nat, cnt c l = ((l.countP fun d => decide (d = c) : Nat) : Int)
  | [] => rfl
  | d :: r => by
    rw [cnt_cons, cnt_len c r, List.countP_cons]
    by_cases h : d = c
    · rw [if_pos h, if_pos (by simpa using h)]; omega
    · rw [if_neg h, if_neg (by simpa using h)]; omega
/-- how often a sign stands in a text -/
theorem ev_count {z : Str} {c : Nat} (h0 : Ev to σ H (.str z)) (h : Ev te σ H (.str ⟨#[c]⟩)) :
    Ev (tM1 (fun x xs H Q => ∃ a b, x = .str a ∧ xs = [.str b] ∧ Q (.int (Txt.count a b)) H) to te) σ H (.int ((z.cps.toList.countP fun d => decide (d = c) : Nat) : Int)) := fun H1 e Q q =>
  h0 H1 e _ fun H2 e2 => ⟨⟨z, rfl⟩, h H2 (e.trans e2) _ fun H3 e3 => ⟨z, ⟨#[c]⟩, rfl, rfl, by
    rw [count_cnt, cnt_len]
    exact q H3 (e2.trans e3)⟩⟩
theorem count_range (l : List Nat) (p : Nat → Bool) : l.countP p = ((List.range l.length).filter fun i => p (l.getD i 0)).length := by
  rw [← List.countP_eq_length_filter]
  have e : l = (List.range l.length).map fun i => l.getD i 0 := by
    apply List.ext_getElem
    · simp
    · intro i h1 h2
      simp [List.getD_eq_getElem?_getD, List.getElem?_eq_getElem h1]
  conv => lhs; rw [e, List.countP_map]
  rfl
end
/-! ### a tuple of one, taken k times -/
def rRepT1 (K : PySem.W.Frag) : R2 := fun x y H Q => ∃ l k xs, x = .ref l ∧ y = .int k ∧ SqT K H l xs ∧ xs ≠ [] ∧ 1 ≤ k ∧ k ≤ 1000 ∧ xs.length ≤ 1000 ∧ (k = 1 → Q (.ref l) H) ∧ (2 ≤ k → ∀ p, H p = none → Q (.ref p) (upd H p (.tup (List.replicate k.toNat xs).flatten)))
end Qt
namespace Qt
open PySem PySem.Spec PyProof.Rows L2 Evl
section
variable {K : PySem.W.Frag} {σ : L2.St} {H : Hp} {te : TE} {t : TT} {ta : TA} {D : Ends} {tu tz : TS}
/-- over range(n), n of either sign -/
theorem el_lcRn {j : Nat} {vs : List Nat} {n : Int} (f : Nat → Bool) (v : Nat → V) (h : EvA ta σ H [.int n]) (hn : -40000 ≤ n ∧ n ≤ 40000)
    (hw : ∀ x, wipe ((wipe σ vs).set j (some x)) vs = wipe σ vs)
    (ht : ∀ (i : Nat) H1, Ex H H1 → (i : Int) < n → EvT t ((wipe σ vs).set j (some (.int (i : Int)))) H1 (f i))
    (he : ∀ (i : Nat) H1, Ex H H1 → (i : Int) < n → f i = true → Ev te ((wipe σ vs).set j (some (.int (i : Int)))) H1 (v i)) :
    EvL (tLc (iRng1 ta) (gName j) t te vs) σ H (given n.toNat f v) := fun H0 e Q q => h H0 e _ fun H1 e1 => by
  refine ⟨n, rfl, by omega, by omega, fun Dl hD => ?_⟩
  refine lc_it (walk_range (lo := 0) (n := n.toNat)) (Cw H1 f v Dl) ⟨hD, Ex.new hD, upd_same⟩ (fun _ _ _ _ => trivial) (fun i x H2 H' hi p y => ?_) (fun H' p => q Dl H' (fresh_back e1 p.1) (e1.trans p.2.1) p.2.2)
  obtain ⟨rfl, rfl⟩ := y
  dsimp only
  rw [Int.zero_add]
  have hi' : (i : Int) < n := by omega
  exact ⟨hw _, cw_turn p (by omega) (ht i H1 (e.trans e1) hi') (fun hf => he i H1 (e.trans e1) hi' hf)⟩
/-- for over range(n), n of either sign -/
theorem q_forRn {j : Nat} {n : Int} (h : EvA ta σ H [.int n]) (hn : -100000 ≤ n ∧ n ≤ 100000) (Pv : Nat → L2.St → Hp → Prop) (h0 : ∀ H1, Ex H H1 → Pv 0 σ H1)
    (hs : ∀ (i : Nat) σ' H', (i : Int) < n → Pv i σ' H' → tu { D with nx := Pv (i + 1), ct := Pv (i + 1), bk := tz D } (σ'.set j (some (.int (i : Int)))) H')
    (hd : ∀ σ' H', Pv n.toNat σ' H' → tz D σ' H') : tSeq (tFor (iRng1 ta) (gName j) tu) tz D σ H :=
  h H (Ex.refl H) _ fun H1 e => by
  refine ⟨n, rfl, by omega, by omega, ?_⟩
  refine for_it (D := { D with nx := tz D }) (walk_range (lo := 0) (n := n.toNat)) Pv (h0 H1 e) (fun _ _ _ _ _ => trivial) (fun i x σ' H2 H' hi p y => ?_) hd
  obtain ⟨rfl, rfl⟩ := y
  dsimp only
  rw [Int.zero_add]
  exact hs i σ' _ (by omega) p
end
end Qt
/-! len(set(xs)) of a list of texts. -/
namespace Qt
open PySem PySem.Spec PyProof.Rows L2 Evl
section
variable {P : Program} {w : World}
theorem nodup_snoc {α : Type} [DecidableEq α] {l : List α} {x : α} : (l ++ [x]).Nodup ↔ l.Nodup ∧ x ∉ l := by
  rw [List.nodup_append]
  constructor
  · rintro ⟨a, _, c⟩
    exact ⟨a, fun h => c x h x List.mem_cons_self rfl⟩
  · rintro ⟨a, b⟩
    refine ⟨a, by simp, fun y hy z hz e => ?_⟩
    rw [List.mem_singleton.mp hz] at e
    exact b (e ▸ hy)
/-- a set of these texts, n of them distinct -/
def SetS (P : Program) (w : World) (xs : List Str) (S : Addr) (h : Heap) : Prop := ∃ n, n ≤ xs.length ∧ (n = xs.length ↔ xs.Nodup) ∧ h.SetOf (PySem.strKind P w) S (fun k => decide (k ∈ xs)) n
theorem fill_strs {A : Around} {I : Addr} {fp wr : List Addr} {G : Array GenState → Array GenState → Prop} {m : Nat} {Pv : Nat → Value → Prop} {St : Nat → Shared → Prop} {R : Result → Shared → Prop}
    (W : WalksS P w A.in1 I fp wr G m Pv St) (S : Addr) (hSf : S ∉ fp) (xs : List Str) (hn : m = xs.length) (hb : xs.length + 1 < scanBound) (hval : ∀ i v, Pv i v → ∃ k t, xs[i]? = some k ∧ v = .str k t) :
    ∀ (k i : Nat) (s : Shared), m - i = k → i ≤ m → St i s → SetS P w (xs.take i) S s.heap → (∀ s', Moved (S :: wr) G s s' → SetS P w xs S s'.heap → R (.ok (.ret .none)) s') →
      codeAny (model P w) A (.builtin "set.update.loop" ⟨[.ref S, .ref I], []⟩) R s := by
  have out : S ∉ wr := fun h => hSf (W.sub _ h)
  have into : ∀ b ∈ wr, b ∈ S :: wr := fun b hb => List.mem_cons_of_mem _ hb
  have stay : ∀ {h h' : Heap} {ys : List Str}, (∀ o, h.get? S = some o → h'.get? S = some o) → SetS P w ys S h → SetS P w ys S h' := by
    rintro h h' ys hk ⟨n, a, b, o, es, ep, t, ho, r⟩
    exact ⟨n, a, b, o, es, ep, t, hk o ho, r⟩
  intro k
  induction k with
  | zero =>
    intro i s hk' hi hst hS hR
    obtain rfl : i = m := by omega
    refine codeAny_builtin F.entry_set_update_loop ?_
    rw [Around.under_plainId F.plain_set_update_loop _]
    show wpAny _ A.in1 (pyNext (.ref I) >>= _) _ _ s
    refine wpAny_bind (W.done s _ _ hst fun s' hm => ?_)
    show wpAny _ A.in1 (ret Value.none) _ _ s'
    rw [List.take_of_length_le (by omega)] at hS
    exact wpAny_pure (hR s' (hm.mono into) (stay (fun o e => hm.heap S o out e) hS))
  | succ k ih =>
    intro i s hk' hi hst hS hR
    have hlt : i < m := by omega
    refine codeAny_builtin F.entry_set_update_loop ?_
    rw [Around.under_plainId F.plain_set_update_loop _]
    show wpAny _ A.in1 (pyNext (.ref I) >>= _) _ _ s
    refine wpAny_bind (W.item i s _ _ hlt hst fun v s' hP hst' hm => ?_)
    obtain ⟨z, t, hz, rfl⟩ := hval i v hP
    obtain ⟨c, hc1, hc2, hS'⟩ := stay (h' := s'.heap) (fun o e => hm.heap S o out e) hS
    have hil : i < xs.length := by omega
    rw [List.length_take, Nat.min_eq_left (by omega)] at hc1 hc2
    show wpAny _ A.in1 (holding [Value.str z t] (setAdd S (.str z t)) >>= _) _ _ s'
    refine wpAny_bind (wpAny_holding ?_)
    unfold setAdd
    refine wpAny_holding ?_
    refine wpAny_bind ((PySem.strKind P w).pyHash (k := z) (strKind_is _ _ _ _) ?_)
    refine wpAny_setAddHashed_of (knd := PySem.strKind P w) (s := { s' with toks := s'.toks + 1 }) (strKind_is _ _ _ _) rfl hS' (by omega) fun h' hsb hS2 => ?_
    have eT : xs.take (i + 1) = xs.take i ++ [z] := by rw [List.take_add_one, hz]; rfl
    have hS3 : SetS P w (xs.take (i + 1)) S h' := by
      refine ⟨_, ?_, ?_, SetOf_congr hS2 (fun j => ?_) rfl⟩
      · rw [List.length_take, Nat.min_eq_left (by omega)]
        split <;> omega
      · rw [List.length_take, Nat.min_eq_left (by omega), eT, nodup_snoc]
        by_cases hmem : z ∈ xs.take i
        · rw [if_pos (decide_eq_true hmem)]
          exact ⟨fun h => by omega, fun h => absurd hmem h.2⟩
        · rw [if_neg (by rw [decide_eq_false hmem]; exact Bool.false_ne_true)]
          exact ⟨fun h => ⟨hc2.mp (by omega), hmem⟩, fun h => by have := hc2.mpr h.1; omega⟩
      · rw [eT]
        simp [List.mem_append]
    refine wpAny_pure ⟨plainId_quiet F.plain_set_update_loop _, ih (i + 1) _ (by omega) hlt (W.frame _ s' _ _ hst' (Nat.le_succ _) fun b hb o e => ?_) hS3 fun s'' hm'' hS'' => ?_⟩
    · rw [hsb.2 b (fun h : b = S => hSf (by rw [← h]; exact hb))]; exact e
    · refine hR s'' (Moved.trans W.gtrans ((hm.mono into).then_heap (Nat.le_succ _) fun b o hb e => ?_) hm'') hS''
      rw [hsb.2 b (fun h : b = S => hb (by rw [h]; exact List.mem_cons_self))]; exact e
theorem fills_strs {items : Array Value} {xs : List Str} (hit : StrsAre items.toList xs) (hb : xs.length + 1 < scanBound) : Fills P w items (SetS P w xs) := by
  have hn : items.size = xs.length := by
    have q : ∀ {us : List Value} {ys : List Str}, StrsAre us ys → us.length = ys.length := by
      intro us ys h
      induction h with
      | nil => rfl
      | cons _ _ _ ih => rw [List.length_cons, List.length_cons, ih]
    have q := q hit
    rwa [Array.length_toList] at q
  have at_ : ∀ {us : List Value} {ys : List Str}, StrsAre us ys → ∀ (i : Nat) (v : Value), us[i]? = some v → ∃ k t, ys[i]? = some k ∧ v = .str k t := by
    intro us ys h
    induction h with
    | nil => intro i v e; simp at e
    | cons y t _ ih =>
      intro i v e
      cases i with
      | zero =>
        have e' := Option.some.inj e
        exact ⟨y, t, rfl, e'.symm⟩
      | succ i => exact ih i v e
  intro A' I fp wr G St R W S hS s0 hst h0 hR
  refine fill_strs W S hS xs hn hb (fun i v hv => at_ hit i v (by rw [Array.getElem?_toList]; exact hv)) (items.size - 0) 0 s0 rfl (Nat.zero_le _) hst
    ⟨0, Nat.zero_le _, by simp, ⟨_, #[], 0, _, h0, ⟨rfl, rfl, rfl⟩, rfl, (fun e he => by simp at he), (fun k => by simp), (by decide), (by rfl), rfl⟩⟩ fun s' hm hs => hR s' hm hs
end
section
variable {X : Cx}
def tLenSetS (K : PySem.W.Frag) (ta : TE) : TE := fun σ H Q => ta σ H fun x H1 => ∃ (l : Addr) (xs : List Str), x = .ref l ∧ SqL K H1 l (xs.map V.str) ∧ xs.length ≤ 2000 ∧ ∀ n : Nat, n ≤ xs.length → (n = xs.length ↔ xs.Nodup) → Q (.int (n : Int)) H1
end
end Qt
/-! min(xs, default=None) of a list of ints. -/
namespace Qt
open PySem PySem.Spec PyProof.Rows L2 Evl
section
variable {P : Program} {w : World} {A : Around} {E : Value → Shared → Prop} {s : Shared}
abbrev kwD : List (Str × Value) := [(PySem.Str.ofString "default", .none)]
theorem min_args (a : Value) : argsOk "min" ⟨[a], kwD⟩ := by unfold argsOk; kernel_rfl
theorem min_name : (toString "min" ++ toString ".loop" : String) = "min.loop" := by decide
abbrev bestO (vs : Array Value) (c : Nat) : Obj := { cls := .type "list", dict := none, data := .seq vs c, slots := #[] }
section
variable {R : Result → Shared → Prop} {I S : Addr} {fp wr : List Addr} {n : Nat} {Pv : Nat → Value → Prop} {St : Nat → Heap → Prop}
theorem minD_loop (W : Walks P w A.in1 I fp wr n Pv St) (bt : Nat → Nat → Bool) (hcmp : CmpOf P w A.in1 .Lt Pv bt) (hSf : S ∉ fp) :
    ∀ (k j : Nat) (s : Shared) (v : Value) (c : Nat), n - (j + 1) = k → j + 1 ≤ n → St (j + 1) s.heap → Pv (argBest bt j) v → s.heap.get? S = some (bestO #[v, v] c) →
    (∀ u h' tk, Pv (argBest bt (n - 1)) u → (∀ b o, b ∉ wr → b ≠ S → s.heap.get? b = some o → h'.get? b = some o) → R (.ok (.ret u)) { s with heap := h', toks := tk }) →
    codeAny (model P w) A (.builtin "min.loop" ⟨[.ref I, .none, .ref S], kwD⟩) R s := by
  have out : S ∉ wr := fun h => hSf (W.sub _ h)
  intro k
  induction k with
  | zero =>
    intro j s v c hk hj hst hP hS hR
    have hn : j + 1 = n := by omega
    refine codeAny_builtin F.entry_min_loop ?_
    rw [Around.under_plainId F.plain_min_loop _]
    show wpAny _ A.in1 (seqItems? (.ref S) >>= _) _ _ s
    refine wpAny_bind (wpAny_seqItems hS rfl ?_)
    show wpAny _ A.in1 (tryCatch (pyNext (.ref I)) _ >>= _) _ _ s
    refine wpAny_bind (wpAny_tryCatch (W.done s _ _ (hn ▸ hst) fun h' tk keep => ?_))
    have hS' := keep S _ out hS
    show wpAny _ A.in1 (updateSeq S (fun _ => #[]) >>= _) _ _ _
    refine wpAny_bind (wpAny_updateSeq hS' rfl (wpAny_bind (wpAny_letGo (wpAny_pure (hR v _ tk (by rw [← hn]; exact hP) fun b o b1 b2 e => ?_)))))
    exact (Heap.get?_update_other _ _ (Ne.symm b2)).trans (keep b o b1 e)
  | succ k ih =>
    intro j s v c hk hj hst hP hS hR
    have lt : j + 1 < n := by omega
    refine codeAny_builtin F.entry_min_loop ?_
    rw [Around.under_plainId F.plain_min_loop _]
    show wpAny _ A.in1 (seqItems? (.ref S) >>= _) _ _ s
    refine wpAny_bind (wpAny_seqItems hS rfl ?_)
    show wpAny _ A.in1 (tryCatch (pyNext (.ref I)) _ >>= _) _ _ s
    refine wpAny_bind (wpAny_tryCatch (W.item (j + 1) s _ _ lt hst fun u h' tk hu hst' keep => ?_))
    have hS' := keep S _ out hS
    show wpAny _ A.in1 (tryCatch (holding [u, u] (richCompare .Lt u v >>= _)) _ >>= _) _ _ _
    refine wpAny_bind (wpAny_tryCatch (wpAny_holding (wpAny_bind (hcmp (j + 1) (argBest bt j) u v _ _ _ hu hP (wpAny_bind (wpAny_holding (wpAny_truthy_bool (wpAny_bind (wpAny_letGo (wpAny_pure ?_))))))))))
    cases hb : bt (j + 1) (argBest bt j) with
    | true =>
      simp only [if_true]
      refine wpAny_bind (wpAny_updateSeq hS' rfl (wpAny_bind (wpAny_letGo ?_)))
      rw [min_name]
      refine wpAny_pure ⟨plainId_quiet F.plain_min_loop _, ih (j + 1) _ u _ (by omega) lt (W.frame _ _ _ hst' fun b hbf o e => ?_) (by simp only [argBest, hb, if_true]; exact hu) (Heap.get?_update_self _ hS' rfl) fun u' h2 tk2 hu' keep2 => ?_⟩
      · exact (Heap.get?_update_other _ _ (fun h : S = b => hSf (by rw [h]; exact hbf))).trans e
      · exact hR u' h2 tk2 hu' fun b o b1 b2 e => keep2 b o b1 b2 ((Heap.get?_update_other _ _ (Ne.symm b2)).trans (keep b o b1 e))
    | false =>
      simp only [Bool.false_eq_true, if_false]
      refine wpAny_bind (wpAny_letGo ?_)
      rw [min_name]
      exact wpAny_pure ⟨plainId_quiet F.plain_min_loop _, ih (j + 1) _ v c (by omega) lt hst' (by simp only [argBest, hb, Bool.false_eq_true, if_false]; exact hP) hS' fun u' h2 tk2 hu' keep2 => hR u' h2 tk2 hu' fun b o b1 b2 e => keep2 b o b1 b2 (keep b o b1 e)⟩
theorem minD_first (W : Walks P w A.in1 I fp wr n Pv St) (bt : Nat → Nat → Bool) (hcmp : CmpOf P w A.in1 .Lt Pv bt) (hSf : S ∉ fp) {s : Shared} {c : Nat} (hst : St 0 s.heap) (hS : s.heap.get? S = some (bestO #[] c))
    (h0 : n = 0 → ∀ h' tk, (∀ b o, b ∉ wr → b ≠ S → s.heap.get? b = some o → h'.get? b = some o) → R (.ok (.ret .none)) { s with heap := h', toks := tk })
    (h1 : 0 < n → ∀ u h' tk, Pv (argBest bt (n - 1)) u → (∀ b o, b ∉ wr → b ≠ S → s.heap.get? b = some o → h'.get? b = some o) → R (.ok (.ret u)) { s with heap := h', toks := tk }) :
    codeAny (model P w) A (.builtin "min.loop" ⟨[.ref I, .none, .ref S], kwD⟩) R s := by
  have out : S ∉ wr := fun h => hSf (W.sub _ h)
  refine codeAny_builtin F.entry_min_loop ?_
  rw [Around.under_plainId F.plain_min_loop _]
  show wpAny _ A.in1 (seqItems? (.ref S) >>= _) _ _ s
  refine wpAny_bind (wpAny_seqItems hS rfl ?_)
  show wpAny _ A.in1 (tryCatch (pyNext (.ref I)) _ >>= _) _ _ s
  by_cases hn : n = 0
  · refine wpAny_bind (wpAny_tryCatch (W.done s _ _ (hn ▸ hst) fun h' tk keep => ?_))
    refine wpAny_bind (wpAny_rule ?_)
    exact wpAny_pure (h0 hn _ tk fun b o b1 b2 e => keep b o b1 e)
  · refine wpAny_bind (wpAny_tryCatch (W.item 0 s _ _ (by omega) hst fun u h' tk hu hst' keep => ?_))
    have hS' := keep S _ out hS
    show wpAny _ A.in1 (updateSeq S (fun _ => #[u, u]) >>= _) _ _ _
    refine wpAny_bind (wpAny_updateSeq hS' rfl ?_)
    rw [min_name]
    refine wpAny_pure ⟨plainId_quiet F.plain_min_loop _, minD_loop W bt hcmp hSf _ 0 _ u _ rfl (by omega) (W.frame _ _ _ hst' fun b hbf o e => ?_) hu (Heap.get?_update_self _ hS' rfl) fun u' h2 tk2 hu' keep2 => ?_⟩
    · exact (Heap.get?_update_other _ _ (fun h : S = b => hSf (by rw [h]; exact hbf))).trans e
    · exact h1 (by omega) u' h2 tk2 hu' fun b o b1 b2 e => keep2 b o b1 b2 ((Heap.get?_update_other _ _ (Ne.symm b2)).trans (keep b o b1 e))
end
theorem minD_list {l : Addr} {items : Array Value} (val : Nat → Int) (hv : ∀ (i : Nat) (v : Value), items[i]? = some v → ∃ t, v = Value.int (val i) t) {Q : Value → Shared → Prop} (hh : A.handled = none) (hl : s.heap.IsList l items)
    (h0 : items.size = 0 → ∀ h' tk, (∀ b o, s.heap.get? b = some o → h'.get? b = some o) → Q .none { s with heap := h', toks := tk })
    (h1 : 0 < items.size → ∀ t h' tk, (∀ b o, s.heap.get? b = some o → h'.get? b = some o) → Q (.int (val (argBest (fun i j => decide (val i < val j)) (items.size - 1))) t) { s with heap := h', toks := tk }) :
    wpAny (model P w) A (call (.builtin "min") [.ref l] kwD) Q E s := by
  obtain ⟨ol, hol, _⟩ := id hl
  have hll : l < s.heap.objs.size := Heap.lt_size hol
  refine kmk_tree F.kind_min F.plain_min F.entry_min (min_args _) ?_
  show wpAny _ A.in1 (Builtin.Builtins.bindParams "min" ["key", "default"] 0 ⟨[], kwD⟩ >>= _) _ _ s
  refine wpAny_bind (wpAny_of_eq (show Builtin.Builtins.bindParams "min" ["key", "default"] 0 ⟨[], kwD⟩ = pure [none, some .none] from rfl) ?_)
  refine wpAny_bind (wpAny_pure (wpAny_bind (wpAny_pyIter_list hl (wpAny_bind (wpAny_newList ?_ (Nat.zero_le _))))))
  rw [min_name]
  have hz : (s.heap.push { cls := .type "list_iterator", data := .fields #[.ref l, .int 0 0] }).objs.size = s.heap.objs.size + 1 := Heap.size_push ..
  have hlI : l ≠ s.heap.objs.size := Nat.ne_of_lt hll
  have kept : ∀ {h' : Heap}, (∀ b o, b ∉ [s.heap.objs.size] → b ≠ (s.heap.push { cls := .type "list_iterator", data := .fields #[.ref l, .int 0 0] }).objs.size →
      ((s.heap.push { cls := .type "list_iterator", data := .fields #[.ref l, .int 0 0] }).push (seqObj "list" #[] 0)).get? b = some o → h'.get? b = some o) → ∀ b o, s.heap.get? b = some o → h'.get? b = some o := by
    intro h' k b o e
    have hb := Heap.lt_size e
    refine k b o (by rw [List.mem_singleton]; exact Nat.ne_of_lt hb) (by rw [hz]; exact Nat.ne_of_lt (Nat.lt_succ_of_lt hb)) (Heap.get?_push_of_some _ (Heap.get?_push_of_some _ e))
  refine wpAny_pure ⟨plainId_quiet F.plain_min_loop _, minD_first (Walks.list (A := A.in1) (by simp [hh]) s.heap.objs.size l hlI items) (fun i j => decide (val i < val j)) (CmpOf.ints_lt val hv) (fun z => ?_) ⟨⟨_, Heap.get?_push_of_some _ (Heap.get?_push_size _ rfl), rfl, rfl⟩, (hl.push _).push _⟩ (Heap.get?_push_size _ rfl) (fun hn h' tk k => ?_) (fun hn u h' tk hu k => ?_)⟩
  · rcases List.mem_cons.mp z with z | z
    · rw [hz] at z
      exact absurd z (Nat.ne_of_gt (Nat.lt_succ_self _))
    · rw [hz] at z
      exact absurd (List.mem_singleton.mp z) (Nat.ne_of_gt (Nat.lt_succ_of_lt hll))
  · exact h0 hn h' tk (kept k)
  · obtain ⟨t, rfl⟩ := hv _ _ hu
    exact h1 hn t h' tk (kept k)
end
section
variable {X : Cx}
/-- min(xs, default=None) -/
def rMinD (K : PySem.W.Frag) : List V → List V → Hp → VK → Prop := fun vs zs H Q => ∃ (a : Addr) (ns : List Int), vs = [.ref a] ∧ zs = [.non] ∧ SqL K H a (ns.map V.int) ∧ (ns = [] → Q .non H) ∧ ∀ m, m ∈ ns → (∀ k ∈ ns, m ≤ k) → Q (.int m) H
theorem cr_minD (hc : X.calm = true) : CallRK X (.builtin "min") [PySem.Str.ofString "default"] (rMinD X.K) := by
  intro pins s σ H vs zs us ws Q I r rz h
  obtain ⟨a, ns, rfl, rfl, hs, q0, q1⟩ := h
  rw [Vals.ref1 r]
  obtain ⟨w1, rfl, e1⟩ := vals1 rz
  obtain rfl : w1 = Value.none := e1
  obtain ⟨its, rv, hl, _⟩ := I.list hs
  have hlen : its.toArray.size = ns.length := by rw [List.size_toArray, ← rv.length, List.length_map]
  refine minD_list (fun i => ns.getD i 0) (fun i v hv => ?_) (I.ok.hd hc) hl.isList (fun hn h' tk k => ?_) fun hn t h' tk k => ?_
  · have hi : i < ns.length := by rw [← hlen]; exact (Array.getElem?_eq_some_iff.mp hv).1
    obtain ⟨u, hu, ru⟩ := rv.get (i := i) (x := .int (ns.getD i 0)) (by rw [List.getElem?_map, List.getElem?_eq_getElem hi, List.getD_eq_getElem?_getD, List.getElem?_eq_getElem hi]; rfl)
    have hv' : its[i]? = some v := by simpa using hv
    rw [hu] at hv'
    cases hv'
    exact ru
  · exact ⟨.non, H, I.kept (t' := tk) k, rfl, q0 (List.eq_nil_of_length_eq_zero (by omega))⟩
  · obtain ⟨b1, b2⟩ := argBest_lt (fun i => ns.getD i 0) (its.toArray.size - 1)
    refine ⟨.int _, H, I.kept (t' := tk) k, ⟨t, rfl⟩, q1 _ ?_ fun z hz => ?_⟩
    · have hi : argBest (fun i j => decide (ns.getD i 0 < ns.getD j 0)) (its.toArray.size - 1) < ns.length := by omega
      rw [List.getD_eq_getElem?_getD, List.getElem?_eq_getElem hi]
      exact List.getElem_mem hi
    · obtain ⟨j, hj, rfl⟩ := List.getElem_of_mem hz
      have := b2 j (by omega)
      rw [List.getD_eq_getElem?_getD (i := j), List.getElem?_eq_getElem hj] at this
      exact this
end
end Qt
/-! Comprehensions of two fors. -/
namespace Qt
open PySem PySem.Spec PyProof.Rows L2 Evl
section
variable {J J1 : It} {n n1 : Nat} {G G1 : Hp → Prop} {Y Y1 : Nat → Hp → V → Hp → Prop}
/-- the outer for -/
theorem lc2_out (w : Walk J n G Y) {B : V → Hp → (Hp → Prop) → Prop} {H1 : Hp} {D : Addr} {Qd : Hp → Prop} (Pv : Nat → Hp → Prop) (h0 : Pv 0 (upd H1 D (.lst []))) (hG : ∀ i H, i ≤ n → Pv i H → G H)
    (hs : ∀ i x H H', i < n → Pv i H → Y i H x H' → B x H' (Pv (i + 1))) (hd : ∀ H, Pv n H → Qd H) :
    ∃ W : Nat → Nat → Hp → Prop, (∃ m, W 0 m (upd H1 D (.lst []))) ∧ ∀ i m H, W i m H → (J.stop i H ∧ Qd H) ∨ (J.go i H ∧ ∃ Nx : Hp → Prop, (∀ H', Nx H' → ∃ m', m' < m ∧ W (i + 1) m' H') ∧ ∀ x H', J.yld i H x H' → B x H' Nx) := by
  refine ⟨fun i m H => m = n - i ∧ i ≤ n ∧ Pv i H, ⟨n, by simp, Nat.zero_le _, h0⟩, ?_⟩
  rintro i m H ⟨rfl, hi, p⟩
  have q := hG i H hi p
  by_cases lt : i < n
  · exact .inr ⟨w.goes i H lt q, Pv (i + 1), fun H' p' => ⟨n - (i + 1), by omega, rfl, lt, p'⟩, fun x H' y => hs i x H H' lt p (w.yields i H x H' lt q y)⟩
  · obtain rfl : i = n := by omega
    exact .inl ⟨w.stops H q, hd H p⟩
/-- the inner for -/
theorem lc2_in (w : Walk J1 n1 G1 Y1) {B : V → Hp → (Hp → Prop) → Prop} {H4 : Hp} {Nx : Hp → Prop} (Pv : Nat → Hp → Prop) (h0 : Pv 0 H4) (hG : ∀ i H, i ≤ n1 → Pv i H → G1 H)
    (hs : ∀ i x H H', i < n1 → Pv i H → Y1 i H x H' → B x H' (Pv (i + 1))) (hd : ∀ H, Pv n1 H → Nx H) :
    ∃ W : Nat → Nat → Hp → Prop, (∃ m, W 0 m H4) ∧ ∀ i m H, W i m H → (J1.stop i H ∧ Nx H) ∨ (J1.go i H ∧ ∃ Mx : Hp → Prop, (∀ H', Mx H' → ∃ m', m' < m ∧ W (i + 1) m' H') ∧ ∀ x H', J1.yld i H x H' → B x H' Mx) := by
  refine ⟨fun i m H => m = n1 - i ∧ i ≤ n1 ∧ Pv i H, ⟨n1, by simp, Nat.zero_le _, h0⟩, ?_⟩
  rintro i m H ⟨rfl, hi, p⟩
  have q := hG i H hi p
  by_cases lt : i < n1
  · exact .inr ⟨w.goes i H lt q, Pv (i + 1), fun H' p' => ⟨n1 - (i + 1), by omega, rfl, lt, p'⟩, fun x H' y => hs i x H H' lt p (w.yields i H x H' lt q y)⟩
  · obtain rfl : i = n1 := by omega
    exact .inl ⟨w.stops H q, hd H p⟩
end
section
variable {K : PySem.W.Frag} {σ : L2.St} {H : Hp} {te til : TE} {ta : TA}
/-- what two fors give, up to the outer turn i -/
def given2 (m : Nat → Nat) (v : Nat → Nat → V) (i : Nat) : List V := (List.range i).flatMap fun a => (List.range (m a)).map (v a)
theorem given2_succ (m : Nat → Nat) (v : Nat → Nat → V) (i : Nat) : given2 m v (i + 1) = given2 m v i ++ (List.range (m i)).map (v i) := by
  unfold given2
  rw [List.range_succ, List.flatMap_append, List.flatMap_singleton]
theorem given2_len (m : Nat → Nat) (v : Nat → Nat → V) (i : Nat) (h : ∀ a, m a ≤ 200) : (given2 m v i).length ≤ i * 200 := by
  induction i with
  | zero => simp [given2]
  | succ i ih =>
    rw [given2_succ, List.length_append, List.length_map, List.length_range]
    have := h i
    omega
theorem yes_if {σ : L2.St} {H : Hp} {A B : Hp → Prop} (h : A H) : tYes σ H fun b H3 => if b = true then A H3 else B H3 := iteT (B := B H) h
/-- for i, x in enumerate(xs) for y in a new list, no test -/
theorem el_lc2 {a : Addr} {xs : List V} {ys : Nat → List V} {j k l : Nat} {vs vs1 : List Nat} (v : Nat → Nat → V) (h : EvA ta σ H [.ref a]) (hx : SqL K H a xs) (hz : xs.length ≤ 200) (hy : ∀ i, (ys i).length ≤ 200)
    (hw : ∀ x y, wipe (((wipe σ vs).set j (some x)).set k (some y)) vs = wipe σ vs)
    (hw1 : ∀ x y z, wipe ((wipe (((wipe σ vs).set j (some x)).set k (some y)) vs1).set l (some z)) vs1 = wipe (((wipe σ vs).set j (some x)).set k (some y)) vs1)
    (hi : ∀ (i : Nat) y H1, Ex H H1 → xs[i]? = some y → EvL til (((wipe σ vs).set j (some (.int (i : Int)))).set k (some y)) H1 (ys i))
    (he : ∀ (i m : Nat) y z H1, Ex H H1 → xs[i]? = some y → (ys i)[m]? = some z → Ev te ((wipe (((wipe σ vs).set j (some (.int (i : Int)))).set k (some y)) vs1).set l (some z)) H1 (v i m)) :
    EvL (tLc2 (iEnum K ta) (gTup K 2 (gCons (gName j) (gCons (gName k) gNil))) tYes (iList K til) (gName l) tYes te vs vs1) σ H (given2 (fun i => (ys i).length) v xs.length) := fun H0 e Q q => h H0 e _ fun H1 e1 => ⟨a, xs, rfl, ex_l (e.trans e1) hx, fun Dl hD => by
  have hm := given2_len (fun i => (ys i).length) v
  refine lc2_out (walk_enum (xs := xs)) (fun i H' => Ex H1 H' ∧ H' Dl = some (.lst (given2 (fun i => (ys i).length) v i))) ⟨Ex.new hD, upd_same⟩ (fun _ _ _ p => ex_l p.1 (ex_l (e.trans e1) hx)) (fun i z H2 H' hlt p y' => ?_) (fun H' p => q Dl H' (fresh_back e1 hD) (e1.trans p.1) p.2)
  obtain ⟨T, nn, y, rfl, nT, rfl, hn, hy'⟩ := y'
  obtain rfl : V.int (i : Nat) = nn := Option.some.inj hn
  obtain ⟨p1, p2⟩ := p
  have nTD : Dl ≠ T := ne_of_none p2 nT
  refine ⟨T, _, rfl, st_of upd_same, rfl, _, _, rfl, _, _, rfl, rfl, hw _ _, ?_⟩
  have E2 : Ex H1 (upd H2 T (.tup [.int (i : Nat), y])) := p1.trans (Ex.new nT)
  refine yes_if ?_
  refine hi i y H1 (e.trans e1) hy' _ E2 _ fun L H3 nL e3 hL => ⟨L, rfl, ⟨_, sq_of hL⟩, ?_⟩
  have dD : H3 Dl = some (.lst (given2 (fun i => (ys i).length) v i)) := e3 _ _ (by rw [upd_ne nTD]; exact p2)
  have nLD : Dl ≠ L := fun z => by
    rw [← z, upd_ne nTD, p2] at nL
    cases nL
  refine lc2_in (walk_list (xs := ys i)) (fun m H' => Ex H1 H' ∧ H' Dl = some (.lst (given2 (fun i => (ys i).length) v i ++ (List.range m).map (v i))) ∧ H' L = some (.lst (ys i))) ⟨E2.trans e3, by rw [List.range_zero, List.map_nil, List.append_nil]; exact dD, hL⟩ (fun _ _ _ p => sq_of p.2.2) (fun m z H4 H5 hmlt p y2 => ?_) (fun H' p => ?_)
  · obtain ⟨rfl, hz2⟩ := y2
    obtain ⟨g1, g2, g3⟩ := p
    refine ⟨hw1 _ _ _, ?_⟩
    refine yes_if ?_
    refine he i m y z H1 (e.trans e1) hy' hz2 _ g1 _ fun H6 e6 => ⟨_, e6 _ _ g2, ?_, Ex.mut (g1.trans e6) hD, ?_, ?_⟩
    · have b1 := hm i hy
      have b2 := hy i
      rw [List.length_append, List.length_map, List.length_range, sizeLine_eq]
      have : i * 200 ≤ 200 * 200 := Nat.mul_le_mul_right _ (by omega)
      omega
    · rw [upd_same, List.range_succ, List.map_append, List.append_assoc]
      rfl
    · rw [upd_ne nLD.symm]
      exact e6 _ _ g3
  · refine ⟨p.1, ?_⟩
    rw [given2_succ]
    exact p.2.1⟩
end
theorem pi_listK {X : Cx} {tg e : Expr} {te : TE} (K : PySem.W.Frag) (h : X.K = K) (he : PE X e te) : PI X tg e (iList K te) := h ▸ pi_list he
theorem call_lenK {X : Cx} (K : PySem.W.Frag) (h : X.K = K) : CallR X (.builtin "len") (fun xs H Q => ∃ x n, xs = [x] ∧ LenV K x H n ∧ Q (.int (n : Int)) H) := h ▸ call_len
theorem call_tuple_ofK {X : Cx} (K : PySem.W.Frag) (h : X.K = K) : CallR X (.type "tuple") (fun xs H Q => ∃ p ys, xs = [.ref p] ∧ ((SqL K H p ys ∧ ∀ l, H l = none → Q (.ref l) (upd H l (.tup ys))) ∨ (SqT K H p ys ∧ Q (.ref p) H))) := h ▸ call_tuple_of
end Qt
/-! a slice of a tuple, the whole of it too. -/
namespace Qt
open PySem PySem.Spec PyProof.Rows L2 Evl
section
variable {prog : Program} {w : World} {A : Around} {E : Value → Shared → Prop} {s : Shared}
theorem tup_whole {t sl : Addr} {items : Array Value} {vl vu : Value} {lo hi : Option Int} {Q : Value → Shared → Prop} (ht : IsTup s.heap t items) (hs : s.heap.IsSliceOf sl vl vu .none) (pl : IsPart vl lo) (pu : IsPart vu hi)
    (h1 : HT.sIx items.size 0 lo = 0) (h2 : HT.sIx items.size items.size hi = items.size) (h : Q (.ref t) s) : wpAny (model prog w) A (getItem (.ref t) (.ref sl)) Q E s := by
  obtain ⟨os, hos, hcs, hds⟩ := id hs
  have hTs : s.TypeIs (.ref sl) "slice" := ⟨os, hos, hcs⟩
  unfold getItem
  try with_reducible refine wpAny_holding ?_
  first | refine wpAny_bind (wpAny_pure ?_) | skip
  refine wpAny_bind (wpAny_sequenceKey ht.typeIs (by decide) (wpAny_bind (wpAny_callSpecial?_slot (name := Str.ofString "__getitem__") ht.typeIs PyProof.Rows.slot_tuple_getitem
    (wpAny_call_entry PyProof.Rows.slot_tuple_getitem ht.typeIs PyProof.Rows.entry_tuple_getitem ?_ (PyProof.Rows.args_tuple_getitem _ _)))))
  show wpAny _ _ (Builtin.Tuple.tupleItemsOf (.ref t) >>= _) _ _ s
  refine wpAny_bind (PyProof.Rows.tupleItemsOf_ ht (wpAny_bind (wpAny_typeOf hTs ?_)))
  rw [if_pos (by decide)]
  refine wpAny_bind (HT.sliceApplied_gen hs pl pu ?_)
  have yes : ((((HT.sIx items.size 0 lo : Nat) : Int) == 0 && (1 : Int) == 1 && (HT.sIx items.size items.size hi - HT.sIx items.size 0 lo) == items.size) = true) := by
    rw [h1, h2, Nat.sub_zero]
    simp
  show wpAny _ _ (if (((HT.sIx items.size 0 lo : Nat) : Int) == 0 && (1 : Int) == 1 && (HT.sIx items.size items.size hi - HT.sIx items.size 0 lo) == items.size) = true then _ else _) _ _ s
  rw [if_pos yes]
  refine wpAny_bind ?_
  unfold Builtin.Tuple.tupleIsExact
  refine wpAny_bind (wpAny_typeOf ht.typeIs (wpAny_pure ?_))
  rw [if_pos (by decide)]
  exact wpAny_bind (wpAny_rule (wpAny_pure ⟨_, rfl, wpAny_pure h⟩))
end
/-- t[lo:hi]: a new tuple, or t itself where it is the whole -/
def rSlTW (K : PySem.W.Frag) : V → Option Int → Option Int → Hp → VK → Prop := fun x lo hi H Q => ∃ a xs, x = .ref a ∧ SqT K H a xs ∧
  (HT.sIx xs.length 0 lo = 0 → HT.sIx xs.length xs.length hi = xs.length → Q (.ref a) H) ∧
  (¬ (HT.sIx xs.length 0 lo = 0 ∧ HT.sIx xs.length xs.length hi = xs.length) → ∀ p, H p = none → Q (.ref p) (upd H p (.tup (cutV xs lo hi))))
theorem sl_tupW {X : Cx} : SlR X (rSlTW X.K) := by
  intro pins s σ H x v vl vu lo hi sl Q I rx hs pl pu h
  obtain ⟨a, xs, rfl, hx, q1, q2⟩ := h
  by_cases hw : HT.sIx xs.length 0 lo = 0 ∧ HT.sIx xs.length xs.length hi = xs.length
  · cases rx
    obtain ⟨its, r, ht, hz⟩ := I.tuple hx
    have hlen : its.toArray.size = xs.length := by rw [List.size_toArray]; exact r.length.symm
    refine ⟨"tuple", _, PyProof.Rows.slot_tuple_getitem.lookup, ht.typeIs, tup_whole ht hs pl pu (by rw [hlen]; exact hw.1) (by rw [hlen]; exact hw.2) ?_⟩
    exact ⟨.ref a, H, I, rfl, q1 hw.1 hw.2⟩
  · exact sl_tup pins s σ H (.ref a) v vl vu lo hi sl Q I rx hs pl pu ⟨a, xs, rfl, hx, hw, q2 hw⟩
end Qt
/-! Lists by their value, truth of a text, slices to a bound. -/
namespace Qt
open PySem PySem.Spec PyProof.Rows L2 Evl
section
variable {K : PySem.W.Frag} {σ : L2.St} {H : Hp} {ta tb te tl : TE} {t : TT}
theorem el_is {xs ys : List V} (h : EvL te σ H xs) (e : xs = ys) : EvL te σ H ys := by
  rw [← e]
  exact h
/-- the truth of a text -/
theorem et_str {z : Str} (h : Ev te σ H (.str z)) (hz : z.length ≤ 100000) : EvT (fun σ H Q => te σ H fun x H' => ∃ k, TruV K x H' k ∧ Q k H') σ H ((z.length : Int) != 0) := fun H1 e Q q =>
  h H1 e _ fun H2 e2 => ⟨_, ⟨sz_of hz, rfl⟩, q H2 e2⟩
/-- the truth of a list -/
theorem et_lst {a : Addr} {xs : List V} (h : Ev te σ H (.ref a)) (hx : SqL K H a xs) : EvT (fun σ H Q => te σ H fun x H' => ∃ k, TruV K x H' k ∧ Q k H') σ H (!xs.isEmpty) := fun H1 e Q q =>
  h H1 e _ fun H2 e2 => ⟨_, .inl ⟨xs, ex_l (e.trans e2) hx, rfl⟩, q H2 e2⟩
theorem rv_addS {x y : Str} (h : x.length + y.length ≤ 100000) : RV (fun x y H Q => ∃ i j, x = .str i ∧ y = .str j ∧ i.length + j.length ≤ sizeLine ∧ Q (.str (i ++ j)) H) (.str x) (.str y) H (.str (x ++ y)) := fun H1 _ _ q =>
  ⟨x, y, rfl, rfl, sz_of h, q H1 (Ex.refl H1)⟩
theorem rv_mulS {z : Str} {k : Nat} (h1 : k ≤ 1000) (h2 : z.length ≤ 1000) : RV (fun x y H Q => ∃ (z : Str) (k : Nat), x = .str z ∧ y = .int (k : Int) ∧ k ≤ 1000 ∧ z.length ≤ 1000 ∧ Q (.str (repS z k)) H) (.str z) (.int (k : Int)) H (.str (repS z k)) := fun H1 _ _ q =>
  ⟨z, k, rfl, rfl, h1, h2, q H1 (Ex.refl H1)⟩
end
theorem app_len (a b : Str) : (a ++ b).length = a.length + b.length := by
  rw [← len_l, str_app, List.length_append, len_l, len_l]
theorem repS_toList (z : Str) (k : Nat) : (repS z k).cps.toList = (List.replicate k z.cps.toList).flatten := by
  unfold repS
  simp
end Qt
/-! min(xs, default=a number); comprehensions of two fors, further. -/
namespace Qt
open PySem PySem.Spec PyProof.Rows L2 Evl
section
variable {P : Program} {w : World} {dv : Value} {A : Around} {E : Value → Shared → Prop} {s : Shared}
abbrev kwE (d : Value) : List (Str × Value) := [(PySem.Str.ofString "default", d)]
theorem min_argsE (a d : Value) : argsOk "min" ⟨[a], kwE d⟩ := by unfold argsOk; kernel_rfl
section
variable {R : Result → Shared → Prop} {I S : Addr} {fp wr : List Addr} {n : Nat} {Pv : Nat → Value → Prop} {St : Nat → Heap → Prop}
theorem minE_loop (W : Walks P w A.in1 I fp wr n Pv St) (bt : Nat → Nat → Bool) (hcmp : CmpOf P w A.in1 .Lt Pv bt) (hSf : S ∉ fp) :
    ∀ (k j : Nat) (s : Shared) (v : Value) (c : Nat), n - (j + 1) = k → j + 1 ≤ n → St (j + 1) s.heap → Pv (argBest bt j) v → s.heap.get? S = some (bestO #[v, v] c) →
    (∀ u h' tk, Pv (argBest bt (n - 1)) u → (∀ b o, b ∉ wr → b ≠ S → s.heap.get? b = some o → h'.get? b = some o) → R (.ok (.ret u)) { s with heap := h', toks := tk }) →
    codeAny (model P w) A (.builtin "min.loop" ⟨[.ref I, .none, .ref S], kwE dv⟩) R s := by
  have out : S ∉ wr := fun h => hSf (W.sub _ h)
  intro k
  induction k with
  | zero =>
    intro j s v c hk hj hst hP hS hR
    have hn : j + 1 = n := by omega
    refine codeAny_builtin F.entry_min_loop ?_
    rw [Around.under_plainId F.plain_min_loop _]
    show wpAny _ A.in1 (seqItems? (.ref S) >>= _) _ _ s
    refine wpAny_bind (wpAny_seqItems hS rfl ?_)
    show wpAny _ A.in1 (tryCatch (pyNext (.ref I)) _ >>= _) _ _ s
    refine wpAny_bind (wpAny_tryCatch (W.done s _ _ (hn ▸ hst) fun h' tk keep => ?_))
    have hS' := keep S _ out hS
    show wpAny _ A.in1 (updateSeq S (fun _ => #[]) >>= _) _ _ _
    refine wpAny_bind (wpAny_updateSeq hS' rfl (wpAny_bind (wpAny_letGo (wpAny_pure (hR v _ tk (by rw [← hn]; exact hP) fun b o b1 b2 e => ?_)))))
    exact (Heap.get?_update_other _ _ (Ne.symm b2)).trans (keep b o b1 e)
  | succ k ih =>
    intro j s v c hk hj hst hP hS hR
    have lt : j + 1 < n := by omega
    refine codeAny_builtin F.entry_min_loop ?_
    rw [Around.under_plainId F.plain_min_loop _]
    show wpAny _ A.in1 (seqItems? (.ref S) >>= _) _ _ s
    refine wpAny_bind (wpAny_seqItems hS rfl ?_)
    show wpAny _ A.in1 (tryCatch (pyNext (.ref I)) _ >>= _) _ _ s
    refine wpAny_bind (wpAny_tryCatch (W.item (j + 1) s _ _ lt hst fun u h' tk hu hst' keep => ?_))
    have hS' := keep S _ out hS
    show wpAny _ A.in1 (tryCatch (holding [u, u] (richCompare .Lt u v >>= _)) _ >>= _) _ _ _
    refine wpAny_bind (wpAny_tryCatch (wpAny_holding (wpAny_bind (hcmp (j + 1) (argBest bt j) u v _ _ _ hu hP (wpAny_bind (wpAny_holding (wpAny_truthy_bool (wpAny_bind (wpAny_letGo (wpAny_pure ?_))))))))))
    cases hb : bt (j + 1) (argBest bt j) with
    | true =>
      simp only [if_true]
      refine wpAny_bind (wpAny_updateSeq hS' rfl (wpAny_bind (wpAny_letGo ?_)))
      rw [min_name]
      refine wpAny_pure ⟨plainId_quiet F.plain_min_loop _, ih (j + 1) _ u _ (by omega) lt (W.frame _ _ _ hst' fun b hbf o e => ?_) (by simp only [argBest, hb, if_true]; exact hu) (Heap.get?_update_self _ hS' rfl) fun u' h2 tk2 hu' keep2 => ?_⟩
      · exact (Heap.get?_update_other _ _ (fun h : S = b => hSf (by rw [h]; exact hbf))).trans e
      · exact hR u' h2 tk2 hu' fun b o b1 b2 e => keep2 b o b1 b2 ((Heap.get?_update_other _ _ (Ne.symm b2)).trans (keep b o b1 e))
    | false =>
      simp only [Bool.false_eq_true, if_false]
      refine wpAny_bind (wpAny_letGo ?_)
      rw [min_name]
      exact wpAny_pure ⟨plainId_quiet F.plain_min_loop _, ih (j + 1) _ v c (by omega) lt hst' (by simp only [argBest, hb, Bool.false_eq_true, if_false]; exact hP) hS' fun u' h2 tk2 hu' keep2 => hR u' h2 tk2 hu' fun b o b1 b2 e => keep2 b o b1 b2 (keep b o b1 e)⟩
theorem minE_first (W : Walks P w A.in1 I fp wr n Pv St) (bt : Nat → Nat → Bool) (hcmp : CmpOf P w A.in1 .Lt Pv bt) (hSf : S ∉ fp) {s : Shared} {c : Nat} (hst : St 0 s.heap) (hS : s.heap.get? S = some (bestO #[] c))
    (h0 : n = 0 → ∀ h' tk, (∀ b o, b ∉ wr → b ≠ S → s.heap.get? b = some o → h'.get? b = some o) → R (.ok (.ret dv)) { s with heap := h', toks := tk })
    (h1 : 0 < n → ∀ u h' tk, Pv (argBest bt (n - 1)) u → (∀ b o, b ∉ wr → b ≠ S → s.heap.get? b = some o → h'.get? b = some o) → R (.ok (.ret u)) { s with heap := h', toks := tk }) :
    codeAny (model P w) A (.builtin "min.loop" ⟨[.ref I, .none, .ref S], kwE dv⟩) R s := by
  have out : S ∉ wr := fun h => hSf (W.sub _ h)
  refine codeAny_builtin F.entry_min_loop ?_
  rw [Around.under_plainId F.plain_min_loop _]
  show wpAny _ A.in1 (seqItems? (.ref S) >>= _) _ _ s
  refine wpAny_bind (wpAny_seqItems hS rfl ?_)
  show wpAny _ A.in1 (tryCatch (pyNext (.ref I)) _ >>= _) _ _ s
  by_cases hn : n = 0
  · refine wpAny_bind (wpAny_tryCatch (W.done s _ _ (hn ▸ hst) fun h' tk keep => ?_))
    refine wpAny_bind (wpAny_rule ?_)
    exact wpAny_pure (h0 hn _ tk fun b o b1 b2 e => keep b o b1 e)
  · refine wpAny_bind (wpAny_tryCatch (W.item 0 s _ _ (by omega) hst fun u h' tk hu hst' keep => ?_))
    have hS' := keep S _ out hS
    show wpAny _ A.in1 (updateSeq S (fun _ => #[u, u]) >>= _) _ _ _
    refine wpAny_bind (wpAny_updateSeq hS' rfl ?_)
    rw [min_name]
    refine wpAny_pure ⟨plainId_quiet F.plain_min_loop _, minE_loop W bt hcmp hSf _ 0 _ u _ rfl (by omega) (W.frame _ _ _ hst' fun b hbf o e => ?_) hu (Heap.get?_update_self _ hS' rfl) fun u' h2 tk2 hu' keep2 => ?_⟩
    · exact (Heap.get?_update_other _ _ (fun h : S = b => hSf (by rw [h]; exact hbf))).trans e
    · exact h1 (by omega) u' h2 tk2 hu' fun b o b1 b2 e => keep2 b o b1 b2 ((Heap.get?_update_other _ _ (Ne.symm b2)).trans (keep b o b1 e))
end
theorem minE_list {l : Addr} {items : Array Value} (val : Nat → Int) (hv : ∀ (i : Nat) (v : Value), items[i]? = some v → ∃ t, v = Value.int (val i) t) {Q : Value → Shared → Prop} (hh : A.handled = none) (hl : s.heap.IsList l items)
    (h0 : items.size = 0 → ∀ h' tk, (∀ b o, s.heap.get? b = some o → h'.get? b = some o) → Q dv { s with heap := h', toks := tk })
    (h1 : 0 < items.size → ∀ t h' tk, (∀ b o, s.heap.get? b = some o → h'.get? b = some o) → Q (.int (val (argBest (fun i j => decide (val i < val j)) (items.size - 1))) t) { s with heap := h', toks := tk }) :
    wpAny (model P w) A (call (.builtin "min") [.ref l] (kwE dv)) Q E s := by
  obtain ⟨ol, hol, _⟩ := id hl
  have hll : l < s.heap.objs.size := Heap.lt_size hol
  refine kmk_tree F.kind_min F.plain_min F.entry_min (min_argsE _ _) ?_
  show wpAny _ A.in1 (Builtin.Builtins.bindParams "min" ["key", "default"] 0 ⟨[], kwE dv⟩ >>= _) _ _ s
  refine wpAny_bind (wpAny_of_eq (show Builtin.Builtins.bindParams "min" ["key", "default"] 0 ⟨[], kwE dv⟩ = pure [none, some dv] from rfl) ?_)
  refine wpAny_bind (wpAny_pure (wpAny_bind (wpAny_pyIter_list hl (wpAny_bind (wpAny_newList ?_ (Nat.zero_le _))))))
  rw [min_name]
  have hz : (s.heap.push { cls := .type "list_iterator", data := .fields #[.ref l, .int 0 0] }).objs.size = s.heap.objs.size + 1 := Heap.size_push ..
  have hlI : l ≠ s.heap.objs.size := Nat.ne_of_lt hll
  have kept : ∀ {h' : Heap}, (∀ b o, b ∉ [s.heap.objs.size] → b ≠ (s.heap.push { cls := .type "list_iterator", data := .fields #[.ref l, .int 0 0] }).objs.size →
      ((s.heap.push { cls := .type "list_iterator", data := .fields #[.ref l, .int 0 0] }).push (seqObj "list" #[] 0)).get? b = some o → h'.get? b = some o) → ∀ b o, s.heap.get? b = some o → h'.get? b = some o := by
    intro h' k b o e
    have hb := Heap.lt_size e
    refine k b o (by rw [List.mem_singleton]; exact Nat.ne_of_lt hb) (by rw [hz]; exact Nat.ne_of_lt (Nat.lt_succ_of_lt hb)) (Heap.get?_push_of_some _ (Heap.get?_push_of_some _ e))
  refine wpAny_pure ⟨plainId_quiet F.plain_min_loop _, minE_first (Walks.list (A := A.in1) (by simp [hh]) s.heap.objs.size l hlI items) (fun i j => decide (val i < val j)) (CmpOf.ints_lt val hv) (fun z => ?_) ⟨⟨_, Heap.get?_push_of_some _ (Heap.get?_push_size _ rfl), rfl, rfl⟩, (hl.push _).push _⟩ (Heap.get?_push_size _ rfl) (fun hn h' tk k => ?_) (fun hn u h' tk hu k => ?_)⟩
  · rcases List.mem_cons.mp z with z | z
    · rw [hz] at z
      exact absurd z (Nat.ne_of_gt (Nat.lt_succ_self _))
    · rw [hz] at z
      exact absurd (List.mem_singleton.mp z) (Nat.ne_of_gt (Nat.lt_succ_of_lt hll))
  · exact h0 hn h' tk (kept k)
  · obtain ⟨t, rfl⟩ := hv _ _ hu
    exact h1 hn t h' tk (kept k)
end
section
variable {X : Cx}
/-- min(xs, default=a number) -/
def rMinE (K : PySem.W.Frag) : List V → List V → Hp → VK → Prop := fun vs zs H Q => ∃ (a : Addr) (ns : List Int), vs = [.ref a] ∧ (∃ z0, zs = [.int z0] ∧ (ns = [] → Q (.int z0) H)) ∧ SqL K H a (ns.map V.int) ∧ ∀ m, m ∈ ns → (∀ k ∈ ns, m ≤ k) → Q (.int m) H
theorem cr_minE (hc : X.calm = true) : CallRK X (.builtin "min") [PySem.Str.ofString "default"] (rMinE X.K) := by
  intro pins s σ H vs zs us ws Q I r rz h
  obtain ⟨a, ns, rfl, ⟨z0, rfl, q0⟩, hs, q1⟩ := h
  rw [Vals.ref1 r]
  obtain ⟨w1, rfl, e1⟩ := vals1 rz
  obtain ⟨t1, rfl⟩ := e1
  obtain ⟨its, rv, hl, _⟩ := I.list hs
  have hlen : its.toArray.size = ns.length := by rw [List.size_toArray, ← rv.length, List.length_map]
  refine minE_list (fun i => ns.getD i 0) (fun i v hv => ?_) (I.ok.hd hc) hl.isList (fun hn h' tk k => ?_) fun hn t h' tk k => ?_
  · have hi : i < ns.length := by rw [← hlen]; exact (Array.getElem?_eq_some_iff.mp hv).1
    obtain ⟨u, hu, ru⟩ := rv.get (i := i) (x := .int (ns.getD i 0)) (by rw [List.getElem?_map, List.getElem?_eq_getElem hi, List.getD_eq_getElem?_getD, List.getElem?_eq_getElem hi]; rfl)
    have hv' : its[i]? = some v := by simpa using hv
    rw [hu] at hv'
    cases hv'
    exact ru
  · exact ⟨.int z0, H, I.kept (t' := tk) k, ⟨_, rfl⟩, q0 (List.eq_nil_of_length_eq_zero (by omega))⟩
  · obtain ⟨b1, b2⟩ := argBest_lt (fun i => ns.getD i 0) (its.toArray.size - 1)
    refine ⟨.int _, H, I.kept (t' := tk) k, ⟨t, rfl⟩, q1 _ ?_ fun z hz => ?_⟩
    · have hi : argBest (fun i j => decide (ns.getD i 0 < ns.getD j 0)) (its.toArray.size - 1) < ns.length := by omega
      rw [List.getD_eq_getElem?_getD, List.getElem?_eq_getElem hi]
      exact List.getElem_mem hi
    · obtain ⟨j, hj, rfl⟩ := List.getElem_of_mem hz
      have := b2 j (by omega)
      rw [List.getD_eq_getElem?_getD (i := j), List.getElem?_eq_getElem hj] at this
      exact this
end
section
variable {K : PySem.W.Frag} {σ : L2.St} {H : Hp} {te til tl : TE} {ta : TA}
theorem given2_lenB (m : Nat → Nat) (v : Nat → Nat → V) (i B : Nat) (h : ∀ a, m a ≤ B) : (given2 m v i).length ≤ i * B := by
  induction i with
  | zero => simp [given2]
  | succ i ih =>
    rw [given2_succ, List.length_append, List.length_map, List.length_range, Nat.succ_mul]
    have := h i
    omega
/-- for x in xs for s in a text, no test -/
theorem el_lc2LS {a : Addr} {xs : List V} {z : Str} {j l : Nat} {vs vs1 : List Nat} (v : Nat → Nat → V) (h : Ev tl σ H (.ref a)) (hx : SqL K H a xs) (hz : xs.length ≤ 5000) (hy : z.length ≤ 10)
    (hw : ∀ x, wipe ((wipe σ vs).set j (some x)) vs = wipe σ vs)
    (hw1 : ∀ x s, wipe ((wipe ((wipe σ vs).set j (some x)) vs1).set l (some s)) vs1 = wipe ((wipe σ vs).set j (some x)) vs1)
    (hi : ∀ (i : Nat) y H1, Ex H H1 → xs[i]? = some y → Ev til ((wipe σ vs).set j (some y)) H1 (.str z))
    (he : ∀ (i m : Nat) y H1, Ex H H1 → xs[i]? = some y → m < z.length → Ev te ((wipe ((wipe σ vs).set j (some y)) vs1).set l (some (sg z m))) H1 (v i m)) :
    EvL (tLc2 (iList K tl) (gName j) tYes (iStr til) (gName l) tYes te vs vs1) σ H (given2 (fun _ => z.length) v xs.length) := fun H0 e Q q => h H0 e _ fun H1 e1 => ⟨a, rfl, ⟨xs, ex_l (e.trans e1) hx⟩, fun Dl hD => by
  have hm := fun i => given2_lenB (fun _ => z.length) v i 10 (fun _ => hy)
  refine lc2_out (walk_list (xs := xs)) (fun i H' => Ex H1 H' ∧ H' Dl = some (.lst (given2 (fun _ => z.length) v i))) ⟨Ex.new hD, upd_same⟩ (fun _ _ _ p => ex_l p.1 (ex_l (e.trans e1) hx)) (fun i y H2 H' hlt p y' => ?_) (fun H' p => q Dl H' (fresh_back e1 hD) (e1.trans p.1) p.2)
  obtain ⟨rfl, hy'⟩ := y'
  obtain ⟨p1, p2⟩ := p
  refine ⟨hw _, ?_⟩
  refine yes_if ?_
  refine hi i y H1 (e.trans e1) hy' _ p1 _ fun H3 e3 => ⟨z, rfl, ?_⟩
  refine lc2_in (walk_str (z := z)) (fun m H' => Ex H1 H' ∧ H' Dl = some (.lst (given2 (fun _ => z.length) v i ++ (List.range m).map (v i)))) ⟨p1.trans e3, by rw [List.range_zero, List.map_nil, List.append_nil]; exact e3 _ _ p2⟩ (fun _ _ _ p => trivial) (fun m s H4 H5 hmlt p y2 => ?_) (fun H' p => ?_)
  · obtain ⟨rfl, c, hc, rfl⟩ := y2
    obtain ⟨g1, g2⟩ := p
    have hml : m < z.length := hmlt
    refine ⟨hw1 _ _, ?_⟩
    refine yes_if ?_
    rw [sg_of hc]
    refine he i m y H1 (e.trans e1) hy' hml _ g1 _ fun H6 e6 => ⟨_, e6 _ _ g2, ?_, Ex.mut (g1.trans e6) hD, ?_⟩
    · have b1 := hm i
      rw [List.length_append, List.length_map, List.length_range, sizeLine_eq]
      omega
    · rw [upd_same, List.range_succ, List.map_append, List.append_assoc]
      rfl
  · refine ⟨p.1, ?_⟩
    rw [given2_succ]
    exact p.2⟩
/-- for i in range(lo, n) for x in a new list, no test -/
theorem el_lc2RL {lo n : Int} {ys : Nat → List V} {j l : Nat} {vs vs1 : List Nat} (v : Nat → Nat → V) (h : EvA ta σ H [.int lo, .int n]) (hn : 0 ≤ lo ∧ lo ≤ 1000 ∧ n ≤ lo + 40 ∧ -1000 ≤ n) (hy : ∀ i, (ys i).length ≤ 2000)
    (hw : ∀ x, wipe ((wipe σ vs).set j (some x)) vs = wipe σ vs)
    (hw1 : ∀ x s, wipe ((wipe ((wipe σ vs).set j (some x)) vs1).set l (some s)) vs1 = wipe ((wipe σ vs).set j (some x)) vs1)
    (hi : ∀ (i : Nat) H1, Ex H H1 → lo + (i : Int) < n → EvL til ((wipe σ vs).set j (some (.int (lo + (i : Int))))) H1 (ys i))
    (he : ∀ (i m : Nat) z H1, Ex H H1 → lo + (i : Int) < n → (ys i)[m]? = some z → Ev te ((wipe ((wipe σ vs).set j (some (.int (lo + (i : Int))))) vs1).set l (some z)) H1 (v i m)) :
    EvL (tLc2 (iRng2 ta) (gName j) tYes (iList K til) (gName l) tYes te vs vs1) σ H (given2 (fun i => (ys i).length) v (n - lo).toNat) := fun H0 e Q q => h H0 e _ fun H1 e1 => ⟨lo, n, rfl, by omega, fun Dl hD => by
  have hm := fun i => given2_lenB (fun i => (ys i).length) v i 2000 hy
  refine lc2_out (walk_range (lo := lo) (n := (n - lo).toNat)) (fun i H' => Ex H1 H' ∧ H' Dl = some (.lst (given2 (fun i => (ys i).length) v i))) ⟨Ex.new hD, upd_same⟩ (fun _ _ _ p => trivial) (fun i y H2 H' hlt p y' => ?_) (fun H' p => q Dl H' (fresh_back e1 hD) (e1.trans p.1) p.2)
  obtain ⟨rfl, rfl⟩ := y'
  obtain ⟨p1, p2⟩ := p
  have hlt' : lo + (i : Int) < n := by omega
  refine ⟨hw _, ?_⟩
  refine yes_if ?_
  refine hi i H1 (e.trans e1) hlt' _ p1 _ fun L H3 nL e3 hL => ⟨L, rfl, ⟨_, sq_of hL⟩, ?_⟩
  have dD := e3 _ _ p2
  have nLD : Dl ≠ L := fun z => by
    rw [← z, p2] at nL
    cases nL
  refine lc2_in (walk_list (xs := ys i)) (fun m H' => Ex H1 H' ∧ H' Dl = some (.lst (given2 (fun i => (ys i).length) v i ++ (List.range m).map (v i))) ∧ H' L = some (.lst (ys i))) ⟨p1.trans e3, by rw [List.range_zero, List.map_nil, List.append_nil]; exact dD, hL⟩ (fun _ _ _ p => sq_of p.2.2) (fun m z H4 H5 hmlt p y2 => ?_) (fun H' p => ?_)
  · obtain ⟨rfl, hz2⟩ := y2
    obtain ⟨g1, g2, g3⟩ := p
    refine ⟨hw1 _ _, ?_⟩
    refine yes_if ?_
    refine he i m z H1 (e.trans e1) hlt' hz2 _ g1 _ fun H6 e6 => ⟨_, e6 _ _ g2, ?_, Ex.mut (g1.trans e6) hD, ?_, ?_⟩
    · have b1 := hm i
      have b2 := hy i
      rw [List.length_append, List.length_map, List.length_range, sizeLine_eq]
      have : i ≤ 40 := by omega
      omega
    · rw [upd_same, List.range_succ, List.map_append, List.append_assoc]
      rfl
    · rw [upd_ne nLD.symm]
      exact e6 _ _ g3
  · refine ⟨p.1, ?_⟩
    rw [given2_succ]
    exact p.2.1⟩
end
section
variable {X : Cx} {o e : Expr} {to te : TE}
end
end Qt
/-! Lists of texts as data; min with a default as a value; lists put together. -/
namespace Qt
open PySem PySem.Spec PyProof.Rows L2 Evl
def lowS (z : Str) : Prop := ∀ c ∈ z.cps.toList, c < 256
theorem strOk_low {z : Str} (h : lowS z) : PyData.strOk z = true := by
  unfold PyData.strOk
  rw [Array.all_eq_true_iff_forall_mem]
  intro c hc
  have := h c (Array.mem_toList_iff.mpr hc)
  simp only [decide_eq_true_eq]
  omega
theorem mem_getDL {α : Type} {l : List α} {i : Nat} {d : α} (h : i < l.length) : l.getD i d ∈ l := by
  rw [List.getD_eq_getElem?_getD, List.getElem?_eq_getElem h]
  exact List.getElem_mem h
theorem range_map_getD {α β : Type} (l : List α) (d : α) (g : α → β) : (List.range l.length).map (fun i => g (l.getD i d)) = l.map g := by
  apply List.ext_getElem
  · simp
  · intro i h1 h2
    simp only [List.length_map] at h2
    simp [List.getD_eq_getElem?_getD, List.getElem?_eq_getElem h2]
theorem range_flat_getD {α β : Type} (l : List α) (d : α) (g : α → List β) : (List.range l.length).flatMap (fun i => g (l.getD i d)) = l.flatMap g := by
  rw [List.flatMap_def, List.flatMap_def, range_map_getD l d g]
/-- what a comprehension over a list with a test gives -/
theorem given_filter {α : Type} (l : List α) (d : α) (p : α → Bool) (g : α → V) : given l.length (fun i => p (l.getD i d)) (fun i => g (l.getD i d)) = (l.filter p).map g := by
  have e : l = (List.range l.length).map (fun i => l.getD i d) := by
    have z := range_map_getD l d id
    rw [List.map_id] at z
    exact z.symm
  have f : l.filter p = ((List.range l.length).filter (fun i => p (l.getD i d))).map (fun i => l.getD i d) := by
    conv => lhs; rw [e]
    rw [List.filter_map]
    rfl
  rw [f, List.map_map]
  rfl
section
variable {K : PySem.W.Frag} {σ : L2.St} {H : Hp} {te ta tb : TE}
theorem ev_minE {ns : List Int} {d : Int} (h : EvL te σ H (ns.map V.int)) : Ev (tCKw (rMinE K) (tCons te tNil) (tCons (tC (.int d)) tNil)) σ H (.int (ns.min?.getD d)) := fun H1 e Q q =>
  h H1 e _ fun p H2 np e2 h2 => ⟨p, ns, rfl, ⟨d, rfl, fun h0 => by
    have z := q H2 e2
    rw [h0] at z
    exact z⟩, sq_of h2, fun m hm hle => by
    have z := q H2 e2
    rw [List.min?_eq_some_iff.mpr ⟨hm, hle⟩] at z
    exact z⟩
theorem rc_min2 {i j : Int} : RC (fun xs H Q => ∃ i j, xs = [V.int i, V.int j] ∧ Q (.int (if j < i then j else i)) H) [.int i, .int j] H (.int (if j < i then j else i)) := fun H1 _ _ q => ⟨i, j, rfl, q H1 (Ex.refl H1)⟩
end
end Qt
/-! zip of a text and a list; list of a text; enumerate of a list or a tuple. -/
namespace Qt
open PySem PySem.Spec PyProof.Rows L2 Evl
/-- the signs of a text beside the items of a list, in new pairs -/
def Itzm (K : PySem.W.Frag) (x : Str) (b : Addr) : It := ⟨fun i H => ∃ ys, SqL K H b ys ∧ i < min x.cps.size ys.length,
  fun i H v H' => ∃ (T : Addr) (c : Nat) (y : V), v = .ref T ∧ H T = none ∧ H' = upd H T (.tup [.str ⟨#[c]⟩, y]) ∧ x.cps[i]? = some c ∧ ∀ ys, SqL K H b ys → ys[i]? = some y, fun i H => ∃ ys, SqL K H b ys ∧ i = min x.cps.size ys.length⟩
def AtZipM (x : Str) (t : Tok) (b z TI TO i1 i2 : Addr) (i : Nat) (h : Heap) : Prop := IsZip h z TI TO .none ∧ IsTupOf2 h TI (.ref i1) (.ref i2) ∧ (∃ a1 a2, IsTupOf2 h TO a1 a2) ∧ h.IsStrIter i1 (strIterType x) x t i ∧ h.IsListIter i2 b i
theorem turn_zipM {P : Program} {w : World} {K : PySem.W.Frag} {elts : List Expr} {kk : Nat} {tpos : Pos} {x : Str} {t : Tok} {b z TI TO i1 i2 : Addr} (D : ZipSep2 z TI TO i1 i2 [i1] [i2, b]) (hb2 : b ≠ i2) :
    Turn P w K (.Tuple elts kk tpos) (Itzm K x b) [z, TI, TO, i1, i2] z (fun i h => AtZipM x t b z TI TO i1 i2 i h) where
  mem := by simp
  obj := fun i h st c hc => by
    obtain ⟨hz, hTI, ⟨a, b, hTO⟩, ⟨o1, e1, _, d1⟩, ⟨o2, e2, _, d2⟩⟩ := st
    have e' : c = z ∨ c = TI ∨ c = TO ∨ c = i1 ∨ c = i2 := by simpa using hc
    rcases e' with q | q | q | q | q
    · rw [q]; exact ⟨_, hz, fun v q => nomatch q⟩
    · rw [q]; exact ⟨_, hTI, fun v q => nomatch q⟩
    · rw [q]; exact ⟨_, hTO, fun v q => nomatch q⟩
    · rw [q]; exact ⟨o1, e1, fun v q => by rw [d1] at q; cases q⟩
    · rw [q]; exact ⟨o2, e2, fun v q => by rw [d2] at q; cases q⟩
  keep := fun i h h' st k => by
    obtain ⟨hz, hTI, ⟨a, b, hTO⟩, ⟨o1, e1, r1⟩, h2⟩ := st
    exact ⟨k z (by simp) _ hz, k TI (by simp) _ hTI, ⟨a, b, k TO (by simp) _ hTO⟩, ⟨o1, k i1 (by simp) _ e1, r1⟩, h2.at fun o q => k i2 (by simp) o q⟩
  item := by
    intro X hP hw hK hc i pins s σ H E I hf st hg
    subst hP hw hK
    obtain ⟨ys, hq, hlt⟩ := hg
    obtain ⟨its, rv, p, _⟩ := I.list hq
    have hlen := rv.length
    have W := WalksT.zipD2 D (Draws.text (prog := X.prog) (w := X.w) (A := X.A.in1) (I.ok.hd hc) i1 x t) (Draws.list (prog := X.prog) (w := X.w) (A := X.A.in1) (I.ok.hd hc) i2 b hb2 its.toArray)
    have live : ∀ c ∈ [z, TI, TO, i1, i2], c < s.heap.objs.size := fun c hb => by
      obtain ⟨hz, hTI, ⟨a, b', hTO⟩, ⟨o1, e1, _, d1⟩, ⟨o2, e2, _, d2⟩⟩ := st
      have e' : c = z ∨ c = TI ∨ c = TO ∨ c = i1 ∨ c = i2 := by simpa using hb
      rcases e' with q | q | q | q | q
      · rw [q]; exact Heap.lt_size hz
      · rw [q]; exact Heap.lt_size hTI
      · rw [q]; exact Heap.lt_size hTO
      · rw [q]; exact Heap.lt_size e1
      · rw [q]; exact Heap.lt_size e2
    obtain ⟨s1, s2, s3, s4, s5⟩ := st
    refine W.item i s _ _ (by simp only [List.size_toArray]; omega) ⟨s1, s2, s3, s4, s5, p.isList⟩ fun T vals h' tk hp hT ht hm hk => ?_
    obtain ⟨v1, v2, ⟨c, t1, hcx, rfl⟩, hdy, rfl⟩ := hp
    have hiy : i < ys.length := by omega
    obtain ⟨u, hu, ru⟩ := rv.get (i := i) (x := ys[i]) (by rw [List.getElem?_eq_getElem hiy])
    obtain rfl : u = v2 := by
      have z : its[i]? = some v2 := by simpa using hdy
      rw [hu] at z
      exact Option.some.inj z
    refine ⟨.ref T, rfl, W.go elts kk tpos i T { s with heap := h', toks := tk } _ _ hm fun h'' hst hk2 => ?_⟩
    obtain ⟨oT, hT1, hT2, nT, hT3⟩ := ht
    have nT' : T ∉ [z, TO, i1, i2] := W.apart i T _ hm
    have hT4 : h''.get? T = some oT := hk2 T oT nT' hT1
    have new : ObjOk X.prog X.w (upd H T (.tup [.str ⟨#[c]⟩, ys[i]])) h'' T (.tup [.str ⟨#[c]⟩, ys[i]]) :=
      ⟨by show 2 ≤ sizeLine; decide, [.str ⟨#[c]⟩ t1, u], .cons ⟨_, rfl⟩ (.cons ru .nil), ⟨_, hT4, hT2, _, hT3⟩⟩
    have sub : ∀ b, b ∉ [z, TI, TO, i1, i2] → b ∉ [z, TO, i1, i2] := fun b hb h => hb (by
      have e' : b = z ∨ b = TO ∨ b = i1 ∨ b = i2 := by simpa using h
      rcases e' with q | q | q | q <;> simp [q])
    have I1 : Inv X pins σ (upd H T (.tup [.str ⟨#[c]⟩, ys[i]])) { s with heap := h'', toks := tk } :=
      I.turnedNew (ch := [z, TI, TO, i1, i2]) (fun b ob hb q => hk2 b ob (sub b hb) (hk b ob (sub b hb) q)) hf hT new
    obtain ⟨r1, r2, r3, r4, r5, _⟩ := hst
    refine ⟨.ref T, _, I1, rfl, ⟨T, c, ys[i], rfl, I.hok.fresh hT, rfl, hcx, fun l hl => by rw [I.list_inj hl hq, List.getElem?_eq_getElem hiy]⟩, ⟨r1, r2, r3, r4, r5⟩, fun b hb => ?_⟩
    rw [upd_ne (Nat.ne_of_lt (Nat.lt_of_lt_of_le (live b hb) hT))]
    exact (hf b hb).1
  done := by
    intro X hP hw hK hc i pins s σ H E I hf st hg
    subst hP hw hK
    obtain ⟨ys, hq, hi⟩ := hg
    obtain ⟨its, rv, p, _⟩ := I.list hq
    have hlen := rv.length
    have W := WalksT.zipD2 D (Draws.text (prog := X.prog) (w := X.w) (A := X.A.in1) (I.ok.hd hc) i1 x t) (Draws.list (prog := X.prog) (w := X.w) (A := X.A.in1) (I.ok.hd hc) i2 b hb2 its.toArray)
    obtain ⟨s1, s2, s3, s4, s5⟩ := st
    have e : min x.cps.size its.toArray.size = i := by simp only [List.size_toArray]; omega
    have sub : ∀ b, b ∉ [z, TI, TO, i1, i2] → b ∉ [z, TO, i1, i2] := fun b hb h => hb (by
      have e' : b = z ∨ b = TO ∨ b = i1 ∨ b = i2 := by simpa using h
      rcases e' with q | q | q | q <;> simp [q])
    rw [← e] at s4 s5
    exact W.done s _ _ ⟨s1, s2, s3, s4, s5, p.isList⟩ fun h' tk hk => ⟨rfl, I.turnedL (t' := tk) (ch := [z, TI, TO, i1, i2]) (fun c o hb q => hk c o (sub c hb) q) hf⟩
  self := fun A i s Q E st h => wpAny_pyIter_zip st.1 h
def iZipM (K : PySem.W.Frag) (ta : TA) : TI := fun σ H R => ta σ H fun vs H1 => ∃ x b ys, vs = [.str x, .ref b] ∧ SqL K H1 b ys ∧ R (Itzm K x b) H1
theorem pi_zipM {X : Cx} {e e2 : Expr} {ta : TA} {p pos tpos : Pos} {elts : List Expr} {kk : Nat} (hg : Gl X "zip") (hm : X.mg "zip" = none) (ha : PA X [e, e2] ta)
    (hs : starEach [e, e2] X.env = (false, eval e X.env) :: starEach [e2] X.env := by rfl) (hpl : (backTo pos (starEach [e2] X.env)).any (·.1) = false := by rfl) :
    PI X (.Tuple elts kk tpos) (.Call (.Name "zip" p) [e, e2] [] pos) (iZipM X.K ta) := by
  refine ⟨fun pins s σ H R I h => ?_⟩
  refine Call_ (ld_blt I hg hm PyProof.Rows.boot_zip (PyProof.Rows.callWith_type1 (thn (ha.run pos pins s σ H _ I h) fun us s1 hh => ?_) hs hpl))
  obtain ⟨vs, H1, I1, r1, x, b, ys, ex, hq, q⟩ := hh
  subst ex
  cases r1 with
  | cons r rr =>
    cases rr with
    | cons r' rr =>
      cases rr
      cases r'
      obtain ⟨t, rfl⟩ := r
      obtain ⟨its, rv, pl, _⟩ := I1.list hq
      have hbl : b < s1.heap.objs.size := by
        obtain ⟨o, ho, _⟩ := pl.isList
        exact Heap.lt_size ho
      refine zip_begins2 (begins_text x t) (begins_list b its.toArray) trivial pl.isList fun h' hz hTI hTO g1 g2 hsz hk => wpAny_pyIter_zip hz ?_
      have I2 : Inv X pins σ H1 { s1 with heap := h' } := I1.kept (t' := s1.toks) hk
      have D : ZipSep2 (s1.heap.objs.size + 4) (s1.heap.objs.size + 2) (s1.heap.objs.size + 3) s1.heap.objs.size (s1.heap.objs.size + 1) [s1.heap.objs.size] [s1.heap.objs.size + 1, b] := by
        generalize hn : s1.heap.objs.size = n at hbl ⊢
        have nb : ∀ k : Nat, (n + k : Nat) ≠ b := fun k z => by
          have hb : n + k < n := by rw [z]; exact hbl
          omega
        constructor
        · show (n + 2 : Nat) ≠ n + 4; omega
        · show (n + 3 : Nat) ≠ n + 4; omega
        · show (n + 2 : Nat) ≠ n + 3; omega
        · show (n + 2 : Nat) ≠ n; omega
        · exact List.mem_cons_self
        · intro h; have := List.mem_singleton.mp h; exact absurd this (show (n + 4 : Nat) ≠ n by omega)
        · intro h; have := List.mem_singleton.mp h; exact absurd this (show (n + 3 : Nat) ≠ n by omega)
        · show (n + 2 : Nat) ≠ n + 1; omega
        · exact List.mem_cons_self
        · intro h
          rcases List.mem_cons.mp h with h | h
          · exact absurd h (show (n + 4 : Nat) ≠ n + 1 by omega)
          · exact absurd (List.mem_singleton.mp h) (nb 4)
        · intro h
          rcases List.mem_cons.mp h with h | h
          · exact absurd h (show (n + 3 : Nat) ≠ n + 1 by omega)
          · exact absurd (List.mem_singleton.mp h) (nb 3)
        · intro h
          rcases List.mem_cons.mp h with h | h
          · exact absurd h (show (n : Nat) ≠ n + 1 by omega)
          · exact absurd (List.mem_singleton.mp h) (nb 0)
        · intro h; have := List.mem_singleton.mp h; exact absurd this (show (n + 1 : Nat) ≠ n by omega)
      refine ⟨s1.heap.objs.size + 4, [s1.heap.objs.size + 4, s1.heap.objs.size + 2, s1.heap.objs.size + 3, s1.heap.objs.size, s1.heap.objs.size + 1], _, _, H1, rfl, I2, turn_zipM (x := x) (t := t) D (Nat.ne_of_lt (Nat.lt_succ_of_lt hbl)), ⟨hz, hTI, ⟨_, _, hTO⟩, ⟨_, g1, rfl, rfl⟩, ⟨_, g2, rfl, rfl⟩⟩, fun c hcm => ?_, q⟩
      have e' : c = s1.heap.objs.size + 4 ∨ c = s1.heap.objs.size + 2 ∨ c = s1.heap.objs.size + 3 ∨ c = s1.heap.objs.size ∨ c = s1.heap.objs.size + 1 := by simpa using hcm
      have hle : s1.heap.objs.size ≤ c := by
        rcases e' with z | z | z | z | z
        · rw [z]; exact Nat.le_add_right _ _
        · rw [z]; exact Nat.le_add_right _ _
        · rw [z]; exact Nat.le_add_right _ _
        · rw [z]; exact Nat.le_refl _
        · rw [z]; exact Nat.le_add_right _ _
      exact I1.fpOk hle (I1.hok.fresh hle)
theorem walk_zipM {K : PySem.W.Frag} {x : Str} {b : Addr} {ys : List V} {n : Nat} (hn : n = min x.length ys.length) :
    Walk (Itzm K x b) n (fun H => SqL K H b ys) (fun i H v H' => ∃ (T : Addr) (c : Nat) (y : V), v = .ref T ∧ H T = none ∧ H' = upd H T (.tup [.str ⟨#[c]⟩, y]) ∧ x.cps[i]? = some c ∧ ys[i]? = some y) := by
  subst hn
  refine ⟨fun i _ hi q => ⟨ys, q, hi⟩, fun _ q => ⟨ys, q, rfl⟩, fun i H v H' _ q y => ?_⟩
  obtain ⟨T, c, y, h1, h2, h3, h4, h5⟩ := y
  exact ⟨T, c, y, h1, h2, h3, h4, h5 ys q⟩
/-- list(text) -/
theorem call_list_text {X : Cx} (hc : X.calm = true) : CallR X (.type "list") (fun xs H Q => ∃ z : Str, xs = [.str z] ∧ z.length ≤ 100000 ∧ ∀ l, H l = none → Q (.ref l) (upd H l (.lst (z.cps.toList.map fun c => V.str ⟨#[c]⟩)))) := by
  intro pins s σ H xs us Q I r h
  obtain ⟨z, rfl, hz, q⟩ := h
  obtain ⟨u, rfl, t, rfl⟩ := vals1 r
  refine call_list_str (I.ok.hd hc) z t (hn := sz_of (by unfold Str.length at hz; exact hz)) fun h' tk acc' c' kp e hacc => ?_
  have hv : Vals (z.cps.toList.map fun c => V.str ⟨#[c]⟩) acc'.toList := by
    have g : ∀ (cs : List Nat) (vs : List Value), vs.length = cs.length → (∀ (j : Nat) (v : Value), vs[j]? = some v → ∃ c u, cs[j]? = some c ∧ v = Value.str ⟨#[c]⟩ u) → Vals (cs.map fun c => V.str ⟨#[c]⟩) vs := by
      intro cs
      induction cs with
      | nil =>
        intro vs hl _
        rw [List.length_nil] at hl
        rw [List.eq_nil_of_length_eq_zero hl]
        exact .nil
      | cons c cs ih =>
        intro vs hl hv
        cases vs with
        | nil => cases hl
        | cons v vs =>
          obtain ⟨c', u, h1, h2⟩ := hv 0 v rfl
          have h1' : c = c' := Option.some.inj h1
          subst h1' h2
          exact .cons ⟨u, rfl⟩ (ih vs (by simpa using hl) fun j v hj => hv (j + 1) v hj)
    refine g _ _ (by rw [Array.length_toList, Array.length_toList]; exact hacc.1) fun j v hj => ?_
    obtain ⟨c, u, h1, h2⟩ := hacc.2 j v (by rw [← Array.getElem?_toList]; exact hj)
    exact ⟨c, u, by rw [Array.getElem?_toList]; exact h1, h2⟩
  refine ⟨.ref s.heap.objs.size, _, I.laid (t' := tk) kp (Nat.le_refl _) (show ObjOk X.prog X.w _ h' _ (.lst _) from ⟨?_, acc'.toList, c', hv, by simpa using e⟩), rfl, q _ (I.hok.fresh (Nat.le_refl _))⟩
  rw [List.length_map, Array.length_toList]
  exact sz_of (by unfold Str.length at hz; exact hz)
end Qt
/-! enumerate of a list or a tuple. -/
namespace Qt
open PySem PySem.Spec PyProof.Rows L2 Evl
/-- enumerate of what begins so, from 0 -/
theorem meets_enum0 {v : Value} {o : Obj} {Hh : Heap → Prop} (B : Begins v o Hh) :
    Meets (Builtin.«enumerate.__new__» ⟨[.type "enumerate", v], []⟩) (fun _ R s => Hh s.heap ∧
      R (.ok (.ret (.ref (s.heap.push o).objs.size))) { s with heap := (s.heap.push o).push { cls := .type "enumerate", data := .fields #[.none, .bool false, .ref s.heap.objs.size, rawInt 0, .none, .none] } }) :=
  .of_wp fun prog w A R s h => by
    obtain ⟨hp, g, d, tk, os⟩ := s
    obtain ⟨h1, h⟩ := h
    have hsub := sub_enumerate
    have go : ∀ {A' : Around} {E Q : Value → Shared → Prop}, Q (.ref hp.objs.size) ⟨hp.push o, g, d, tk, os⟩ → wpAny (model prog w) A' (pyIter v) Q E ⟨hp, g, d, tk, os⟩ :=
      fun q => B.iter prog w _ _ ⟨hp, g, d, tk, os⟩ _ h1 q
    wp_walk using go
    refine wpAny_stack_any fun st => wpAny_pure ?_
    split
    · rename_i cc _ _ _ _ _
      cases (cc == Value.type "enumerate") <;>
      · wp_walk using go
        exact ⟨_, rfl, h⟩
    · wp_walk using go
      exact ⟨_, rfl, h⟩
section
variable {prog : Program} {w : World} {A : Around} {E : Value → Shared → Prop} {s : Shared}
theorem call_enum0 {v : Value} {o : Obj} {Hh : Heap → Prop} {Q : Value → Shared → Prop} (B : Begins v o Hh) (h1 : Hh s.heap)
    (h : ∀ h', IsEnum h' (s.heap.objs.size + 1) s.heap.objs.size 0 .none → h'.get? s.heap.objs.size = some o → (∀ b o, s.heap.get? b = some o → h'.get? b = some o) → Q (.ref (s.heap.objs.size + 1)) { s with heap := h' }) :
    wpAny (model prog w) A (call (.type "enumerate") [v]) Q E s := by
  refine callType_new F.called_enumerate (by decide) (F.typeCall_enumerate_1 _) (F.newCall_enumerate_1 _) (fun obj => F.args_object_init_2 obj _) F.entry_enumerate_new (meets_enum0 B) ⟨h1, ?_⟩
  have hz : (s.heap.push o).objs.size = s.heap.objs.size + 1 := Heap.size_push ..
  show _ ∧ _
  rw [hz]
  have he : IsEnum ((s.heap.push o).push { cls := .type "enumerate", data := .fields #[.none, .bool false, .ref s.heap.objs.size, rawInt 0, .none, .none] }) (s.heap.objs.size + 1) s.heap.objs.size 0 .none := by
    have z := Heap.get?_push_size (s.heap.push o) (o := { cls := .type "enumerate", data := .fields #[.none, .bool false, .ref s.heap.objs.size, rawInt 0, .none, .none] }) rfl
    rw [hz] at z
    exact z
  exact ⟨⟨_, he, rfl⟩, h _ he (Heap.get?_push_of_some _ (Heap.get?_push_size _ B.free)) fun b o x => Heap.get?_push_of_some _ (Heap.get?_push_of_some _ x)⟩
end
/-- the items of a tuple with their numbers, in new pairs -/
def Itet (K : PySem.W.Frag) (a : Addr) : It := ⟨fun i H => ∃ (xs : List V) (x : V), SqT K H a xs ∧ xs[i]? = some x,
  fun i H v H' => ∃ (T : Addr) (x : V), v = .ref T ∧ H T = none ∧ H' = upd H T (.tup [.int (i : Nat), x]) ∧ ∀ xs, SqT K H a xs → xs[i]? = some x, fun i H => ∃ xs : List V, SqT K H a xs ∧ xs.length = i⟩
def AtEnumT (a e it : Addr) (i : Nat) (h : Heap) : Prop := (∃ old, IsEnum h e it ((i : Nat) : Int) old) ∧ h.IsTupleIter it a i
theorem isTuple_of {h : Heap} {t : Addr} {items : Array Value} (p : IsTup h t items) : h.IsTuple t items := by
  obtain ⟨o, h1, h2, n, h3⟩ := p
  exact ⟨o, h1, h2, n, h3⟩
theorem turn_enumT {P : Program} {w : World} {K : PySem.W.Frag} {elts : List Expr} {kk : Nat} {tpos : Pos} {a e it : Addr} (hne : e ≠ it) (hai : a ≠ it) (hae : e ≠ a) :
    Turn P w K (.Tuple elts kk tpos) (Itet K a) [e, it] e (fun i h => AtEnumT a e it i h) where
  mem := by simp
  obj := fun i h st b hb => by
    obtain ⟨⟨old, he⟩, o, ho, hc, hd⟩ := st
    have e' : b = e ∨ b = it := by simpa using hb
    rcases e' with z | z
    · rw [z]; exact ⟨_, he, fun v q => nomatch q⟩
    · rw [z]; exact ⟨o, ho, fun v q => by rw [hd] at q; cases q⟩
  keep := fun i h h' st k => by
    obtain ⟨⟨old, he⟩, o, ho, r⟩ := st
    exact ⟨⟨old, k e (by simp) _ he⟩, o, k it (by simp) o ho, r⟩
  item := by
    intro X hP hw hK hc i pins s σ H E I hf st hg
    subst hP hw hK
    obtain ⟨xs, x, hq, hx⟩ := hg
    obtain ⟨its, rv, p, _⟩ := I.tuple hq
    obtain ⟨u, hu, ru⟩ := rv.get hx
    have hlen := rv.length
    have hix : i < xs.length := (List.getElem?_eq_some_iff.mp hx).1
    obtain ⟨⟨old, he⟩, hit⟩ := st
    have hel : e < s.heap.objs.size := Heap.lt_size he
    have hil : it < s.heap.objs.size := by obtain ⟨_, q, _⟩ := hit; exact Heap.lt_size q
    have W := WalksT.enumerateD (Draws.tuple (prog := X.prog) (w := X.w) (A := X.A.in1) (I.ok.hd hc) it a hai its.toArray) e hne (by simp only [List.mem_cons, List.not_mem_nil, or_false, not_or]; exact ⟨hne, hae⟩) (by simp)
    refine W.item i s _ _ (by simp only [List.size_toArray]; omega) ⟨⟨old, he⟩, hit, isTuple_of p⟩ fun T vals h' tk hp hT ht hm hk => ?_
    obtain ⟨tt, v, hv, rfl⟩ := hp
    obtain rfl : u = v := by
      have z : its[i]? = some v := by simpa using hv
      rw [hu] at z
      exact Option.some.inj z
    refine ⟨.ref T, rfl, W.go elts kk tpos i T { s with heap := h', toks := tk } _ _ hm fun h'' hst hk2 => ?_⟩
    obtain ⟨oT, hT1, hT2, nT, hT3⟩ := ht
    have nT' : T ∉ [e, it] := W.apart i T _ hm
    have hT4 : h''.get? T = some oT := hk2 T oT nT' hT1
    have new : ObjOk X.prog X.w (upd H T (.tup [.int (i : Nat), x])) h'' T (.tup [.int (i : Nat), x]) :=
      ⟨by show 2 ≤ sizeLine; decide, [.int i tt, u], .cons ⟨_, rfl⟩ (.cons ru .nil), ⟨_, hT4, hT2, _, hT3⟩⟩
    have I1 : Inv X pins σ (upd H T (.tup [.int (i : Nat), x])) { s with heap := h'', toks := tk } :=
      I.turnedNew (ch := [e, it]) (fun b ob hb q => hk2 b ob hb (hk b ob hb q)) hf hT new
    obtain ⟨w1, w2, _⟩ := hst
    refine ⟨.ref T, _, I1, rfl, ⟨T, x, rfl, I.hok.fresh hT, rfl, fun l hl => by rw [I.tuple_inj hl hq]; exact hx⟩, ⟨w1, w2⟩, fun b hb => ?_⟩
    have hb' : b < s.heap.objs.size := by
      have e' : b = e ∨ b = it := by simpa using hb
      rcases e' with z | z
      · rw [z]; exact hel
      · rw [z]; exact hil
    rw [upd_ne (Nat.ne_of_lt (Nat.lt_of_lt_of_le hb' hT))]
    exact (hf b hb).1
  done := by
    intro X hP hw hK hc i pins s σ H E I hf st hg
    subst hP hw hK
    obtain ⟨xs, hq, hi⟩ := hg
    obtain ⟨its, rv, p, _⟩ := I.tuple hq
    have hlen := rv.length
    obtain ⟨⟨old, he⟩, hit⟩ := st
    obtain ⟨f0, f1, f2, f3, f4, f5⟩ := hf it (by simp)
    have D := Draws.tuple (prog := X.prog) (w := X.w) (A := X.A.in1) (I.ok.hd hc) it a hai its.toArray
    have hsz : its.toArray.size = i := by simp only [List.size_toArray]; omega
    rw [← hsz] at hit
    exact wpAny_pyNext_enum_endD D he ⟨hit, isTuple_of p⟩ fun h' eb => ⟨rfl, I.turned (t' := s.toks) (fun b o hb q => eb b o hb q) f0 f1 f3 f4 f5⟩
  self := fun A i s Q E st h => let ⟨⟨_, he⟩, _⟩ := st; wpAny_pyIter_enum he h
def iEnumA (K : PySem.W.Frag) (ta : TA) : TI := fun σ H R => ta σ H fun vs H1 => ∃ a xs, vs = [.ref a] ∧ ((SqL K H1 a xs ∧ R (Ite K a) H1) ∨ (SqT K H1 a xs ∧ R (Itet K a) H1))
theorem pi_enumA {X : Cx} {e : Expr} {ta : TA} {p pos tpos : Pos} {elts : List Expr} {kk : Nat} (hg : Gl X "enumerate") (hm : X.mg "enumerate" = none) (ha : PA X [e] ta) (hs : starEach [e] X.env = [(false, eval e X.env)] := by rfl) :
    PI X (.Tuple elts kk tpos) (.Call (.Name "enumerate" p) [e] [] pos) (iEnumA X.K ta) := by
  refine ⟨fun pins s σ H R I h => ?_⟩
  refine Call_ (ld_blt I hg hm boot_enumerate (PyProof.Rows.callWith_type1 (thn (ha.run pos pins s σ H _ I h) fun us s1 hh => ?_) hs rfl))
  obtain ⟨vs, H1, I1, r1, a, xs, ex, hq⟩ := hh
  subst ex
  cases r1 with
  | cons r rr =>
    cases rr
    cases r
    rcases hq with ⟨hq, q⟩ | ⟨hq, q⟩
    · obtain ⟨its, rv, p', hz⟩ := I1.list hq
      refine call_enumerate_list p'.isList fun h' he hit hsz hk => wpAny_pyIter_enum he ?_
      have I2 : Inv X pins σ H1 { s1 with heap := h' } := I1.kept (t' := s1.toks) hk
      refine ⟨s1.heap.objs.size + 1, [s1.heap.objs.size + 1, s1.heap.objs.size], _, _, H1, rfl, I2, turn_enum a (s1.heap.objs.size + 1) s1.heap.objs.size, ⟨⟨.none, he⟩, hit, Nat.succ_ne_self _⟩, fun b hb => ?_, q⟩
      have e' : b = s1.heap.objs.size + 1 ∨ b = s1.heap.objs.size := by simpa using hb
      have hle : s1.heap.objs.size ≤ b := by
        rcases e' with z | z
        · rw [z]; exact Nat.le_add_right _ _
        · rw [z]; exact Nat.le_refl _
      exact I1.fpOk hle (I1.hok.fresh hle)
    · obtain ⟨its, rv, p', hz⟩ := I1.tuple hq
      have hal : a < s1.heap.objs.size := by
        obtain ⟨o, ho, _⟩ := id p'
        exact Heap.lt_size ho
      refine call_enum0 (begins_tuple a its.toArray) (isTuple_of p') fun h' he g1 hk => wpAny_pyIter_enum he ?_
      have I2 : Inv X pins σ H1 { s1 with heap := h' } := I1.kept (t' := s1.toks) hk
      refine ⟨s1.heap.objs.size + 1, [s1.heap.objs.size + 1, s1.heap.objs.size], _, _, H1, rfl, I2, turn_enumT (a := a) (Nat.succ_ne_self _) (Nat.ne_of_lt hal) (Nat.ne_of_gt (Nat.lt_succ_of_lt hal)), ⟨⟨.none, he⟩, ⟨_, g1, rfl, rfl⟩⟩, fun b hb => ?_, q⟩
      have e' : b = s1.heap.objs.size + 1 ∨ b = s1.heap.objs.size := by simpa using hb
      have hle : s1.heap.objs.size ≤ b := by
        rcases e' with z | z
        · rw [z]; exact Nat.le_add_right _ _
        · rw [z]; exact Nat.le_refl _
      exact I1.fpOk hle (I1.hok.fresh hle)
theorem walk_enumT {K : PySem.W.Frag} {a : Addr} {xs : List V} : Walk (Itet K a) xs.length (fun H => SqT K H a xs) (YPair (fun i => some (.int (i : Nat))) (fun i => xs[i]?)) := by
  refine ⟨fun i _ hi q => ⟨xs, xs[i], q, by simp [hi]⟩, fun _ q => ⟨xs, q, rfl⟩, fun i H v H' _ q y => ?_⟩
  obtain ⟨T, x, h1, h2, h3, h4⟩ := y
  exact ⟨T, .int (i : Nat), x, h1, h2, h3, rfl, h4 xs q⟩
/-- a list or a tuple of these -/
def SqA (K : PySem.W.Frag) (H : Hp) (a : Addr) (xs : List V) : Prop := H a = some (.lst xs) ∨ H a = some (.tup xs)
theorem SqA.ex {K : PySem.W.Frag} {H H1 : Hp} {a : Addr} {xs : List V} (h : SqA K H a xs) (e : Ex H H1) : SqA K H1 a xs := h.imp (e _ _) (e _ _)
/-- a for over enumerate of either -/
theorem q_forEA {K : PySem.W.Frag} {σ : L2.St} {H : Hp} {ta : TA} {tu tz : TS} {D : Ends} {a : Addr} {xs : List V} {j k : Nat} (h : EvA ta σ H [.ref a]) (hx : SqA K H a xs) (Pv : Nat → L2.St → Hp → Prop) (h0 : ∀ H1, Ex H H1 → Pv 0 σ H1) (hl : ∀ i σ' H', i ≤ xs.length → Pv i σ' H' → Ex H H')
    (hs : ∀ i x σ' H' T, xs[i]? = some x → Pv i σ' H' → H' T = none → tu { D with nx := Pv (i + 1), ct := Pv (i + 1), bk := tz D } ((σ'.set j (some (.int (i : Int)))).set k (some x)) (upd H' T (.tup [.int (i : Int), x]))) (hd : ∀ σ' H', Pv xs.length σ' H' → tz D σ' H') :
    tSeq (tFor (iEnumA K ta) (gTup K 2 (gCons (gName j) (gCons (gName k) gNil))) tu) tz D σ H := h H (Ex.refl H) _ fun H1 e1 => by
  rcases hx with hx | hx
  · refine ⟨a, xs, rfl, .inl ⟨sq_of (e1 _ _ hx), ?_⟩⟩
    refine for_it (D := { D with nx := tz D }) (walk_enum (xs := xs)) Pv (h0 H1 e1) (fun i σ' H' hi p => sq_of (hl i σ' H' hi p _ _ hx)) (fun i x σ' H2 H' hi p y => ?_) hd
    obtain ⟨T, nn, y, rfl, nT, rfl, hn, hy⟩ := y
    obtain rfl : V.int (i : Nat) = nn := Option.some.inj hn
    exact ⟨T, _, rfl, st_of upd_same, rfl, _, _, rfl, _, _, rfl, rfl, hs i y σ' H2 T hy p nT⟩
  · refine ⟨a, xs, rfl, .inr ⟨st_of (e1 _ _ hx), ?_⟩⟩
    refine for_it (D := { D with nx := tz D }) (walk_enumT (xs := xs)) Pv (h0 H1 e1) (fun i σ' H' hi p => st_of (hl i σ' H' hi p _ _ hx)) (fun i x σ' H2 H' hi p y => ?_) hd
    obtain ⟨T, nn, y, rfl, nT, rfl, hn, hy⟩ := y
    obtain rfl : V.int (i : Nat) = nn := Option.some.inj hn
    exact ⟨T, _, rfl, st_of upd_same, rfl, _, _, rfl, _, _, rfl, rfl, hs i y σ' H2 T hy p nT⟩
/-- a for over zip of a text and a list -/
theorem q_forZM {K : PySem.W.Frag} {σ : L2.St} {H : Hp} {ta : TA} {tu tz : TS} {D : Ends} {x : Str} {b : Addr} {ys : List V} {j k : Nat} (h : EvA ta σ H [.str x, .ref b]) (hx : ∀ H1, Ex H H1 → SqL K H1 b ys) (hn : ys.length = x.length) (Pv : Nat → L2.St → Hp → Prop) (h0 : ∀ H1, Ex H H1 → Pv 0 σ H1)
    (hl : ∀ i σ' H', i ≤ x.length → Pv i σ' H' → SqL K H' b ys)
    (hs : ∀ i y σ' H' T, i < x.length → ys[i]? = some y → Pv i σ' H' → H' T = none → tu { D with nx := Pv (i + 1), ct := Pv (i + 1), bk := tz D } ((σ'.set j (some (sg x i))).set k (some y)) (upd H' T (.tup [sg x i, y]))) (hd : ∀ σ' H', Pv x.length σ' H' → tz D σ' H') :
    tSeq (tFor (iZipM K ta) (gTup K 2 (gCons (gName j) (gCons (gName k) gNil))) tu) tz D σ H := h H (Ex.refl H) _ fun H1 e1 => by
  refine ⟨x, b, ys, rfl, hx H1 e1, ?_⟩
  refine for_it (D := { D with nx := tz D }) (walk_zipM (K := K) (x := x) (ys := ys) (n := x.length) (by omega)) Pv (h0 H1 e1) hl (fun i v σ' H2 H' hi p y => ?_) hd
  obtain ⟨T, c, y, rfl, nT, rfl, hc, hy⟩ := y
  rw [sg_of hc]
  exact ⟨T, _, rfl, st_of upd_same, rfl, _, _, rfl, _, _, rfl, rfl, hs i y σ' H2 T hi hy p nT⟩
/-- the same, the last statement -/
theorem s_forEA {K : PySem.W.Frag} {σ : L2.St} {H : Hp} {ta : TA} {tu : TS} {D : Ends} {a : Addr} {xs : List V} {j k : Nat} (h : EvA ta σ H [.ref a]) (hx : SqA K H a xs) (Pv : Nat → L2.St → Hp → Prop) (h0 : ∀ H1, Ex H H1 → Pv 0 σ H1) (hl : ∀ i σ' H', i ≤ xs.length → Pv i σ' H' → Ex H H')
    (hs : ∀ i x σ' H' T, xs[i]? = some x → Pv i σ' H' → H' T = none → tu { D with nx := Pv (i + 1), ct := Pv (i + 1), bk := D.nx } ((σ'.set j (some (.int (i : Int)))).set k (some x)) (upd H' T (.tup [.int (i : Int), x]))) (hd : ∀ σ' H', Pv xs.length σ' H' → D.nx σ' H') :
    tFor (iEnumA K ta) (gTup K 2 (gCons (gName j) (gCons (gName k) gNil))) tu D σ H := q_forEA (tz := fun D σ H => D.nx σ H) h hx Pv h0 hl hs hd
end Qt
/-! Calls of what an expression gives; errors with one field. -/
namespace Qt
open PySem PySem.Spec PyProof.Rows L2 Evl
section
variable {X : Cx} {fe e : Expr} {es : List Expr} {pos : Pos} {tf : TE} {t : TA} {CX : CXT}
/-- fs[i](..): the value is one of some defs -/
def tCallE (tf : TE) (Cd : Addr → Sp → Prop) (E : L2.St → XK) (t : TA) : TE := fun σ H Q => tf σ H fun v H1 => ∃ f sp, v = .ref f ∧ Cd f sp ∧ t σ H1 fun vs H2 => sp vs H2 Q (E σ)
end
/-- an __init__ that keeps its one argument -/
def spInitF (K : PySem.W.Frag) (fn : Str) (C : Addr) : Sp := fun vs H Q _ => ∃ a v, vs = [.ref a, v] ∧ H a = some (exo a C none) ∧
  ∀ d H2, Ex H H2 → H2 d = none → d ≠ a → Q .non (upd (upd H2 d (exd d [(fn, v)])) a (exo a C (some d)))
end Qt
/-! A range kept in a name; a written dict with ints as keys. -/
namespace Qt
open PySem PySem.Spec PyProof.Rows L2 Evl
section
variable {X : Cx} {tg : Expr}
theorem cr_range1 : CallR X (.type "range") (fun vs H Q => ∃ j, vs = [V.int j] ∧ ∀ p, H p = none → Q (.ref p) (upd H p (.rng 0 j))) := by
  intro pins s σ H vs us Q I r h
  obtain ⟨j, rfl, q⟩ := h
  cases r with
  | cons rj rr =>
    cases rr
    obtain ⟨u, rfl⟩ := rj
    refine call_range_1 ⟨.ref s.heap.objs.size, upd H s.heap.objs.size (.rng 0 j), I.laid (t' := s.toks + 1 + 1) (fun b o e => Heap.get?_push_of_some _ e) (Nat.le_refl _) ?_, rfl, q _ (I.hok.fresh (Nat.le_refl _))⟩
    exact ⟨_, u, _, Heap.get?_push_size _ rfl⟩
def iRngV (te : TE) : TI := fun σ H R => te σ H fun x H1 => ∃ (a : Addr) (lo hi : Int), x = .ref a ∧ H1 a = some (.rng lo hi) ∧ -(2 ^ 62) ≤ lo ∧ lo < 2 ^ 62 ∧ -(2 ^ 62) ≤ hi ∧ hi < 2 ^ 62 ∧ R (Itr lo (hi - lo).toNat) H1
end
/-- keys that are ints -/
def KeysInt : List DictEntry → Prop
  | [] => True
  | e :: r => (∃ k t, e.key = .int k t ∧ e.hash = hashInt k) ∧ KeysInt r
theorem KeysInt.all : ∀ {l : List DictEntry}, KeysInt l → ∀ e ∈ l, ∃ k t, e.key = .int k t ∧ e.hash = hashInt k
  | _ :: _, ⟨h, _⟩, _, .head _ => h
  | _ :: _, ⟨_, r⟩, _, .tail _ m => r.all _ m
def KDctI (K : PySem.W.Frag) (p : Addr) (i : Int) (v : V) : Prop := ∃ es n u, K.lookup p = some ⟨.type "dict", none, .dict es n, #[]⟩ ∧ KeysInt es.toList ∧ findBy Value.isInt es i = some u ∧ RelV v u
def rIxDI (K : PySem.W.Frag) : R2 := fun x y H Q => ∃ p i v, x = .ref p ∧ y = .int i ∧ KDctI K p i v ∧ Q v H
section
variable {X : Cx}
theorem ix_kdictI : IxR X (rIxDI X.K) := by
  intro value slice pins s σ H x y v u Q I rx ry h hs
  obtain ⟨p, i, r, rfl, rfl, ⟨es, n, u0, hl, hk, e, ru⟩, q⟩ := h
  obtain rfl : v = Value.ref p := rx
  obtain ⟨t, rfl⟩ := ry
  have hm : s.heap.MapOf (intKind X.prog X.w) p (fun k => findBy Value.isInt es k) := ⟨_, es, n, I.kIn _ _ hl, ⟨rfl, rfl, rfl⟩, rfl, fun e he => by
    obtain ⟨k, t, e1, e2⟩ := hk.all e (Array.mem_toList_iff.mpr he)
    exact ⟨k, by rw [e1]; show Value.isInt k (.int k t) = true; simp [Value.isInt], e2⟩, fun _ => rfl⟩
  exact tail_any hm.typeIs slot_dict_getitem.lookup (wpAny_getItem_of (show (intKind X.prog X.w).is i (.int i t) = true from by show Value.isInt i (.int i t) = true; simp [Value.isInt]) hm e ⟨r, H, I.tok _, ru, q⟩) hs
end
end Qt
/-! Lists of pairs; long lists. -/
namespace Qt
open PySem PySem.Spec PyProof.Rows L2 Evl
section
variable {K : PySem.W.Frag} {σ : L2.St} {H : Hp} {ta te tl : TE} {D : Ends}
theorem s_appUB {l : Addr} {xs ys : List V} (hl : H l = some (.lst xs)) (ha : Ev ta σ H (.ref l)) (h : EvU te σ H ys) (hz : xs.length < sizeLine) (k : ∀ p H1, H p = none → Ex H H1 → H1 p = some (.tup ys) → D.nx σ (upd H1 l (.lst (xs ++ [.ref p])))) :
    tDrop (tBM K "list" rAppend ta (tCons te tNil)) D σ H := ha H (Ex.refl H) _ fun H1 e1 =>
  ⟨Or.inl ⟨rfl, xs, sq_of (e1 l _ hl)⟩, h H1 e1 _ fun p H2 hp e2 h2 => ⟨l, xs, .ref p, rfl, rfl, e2 l _ (e1 l _ hl), hz, k p H2 (fresh_back e1 hp) (e1.trans e2) h2⟩⟩
/-- the first of each pair of a list, made anew -/
theorem el_lcP {a : Addr} {xs : List V} {j k : Nat} {vs : List Nat} (f g v : Nat → V) (h : Ev tl σ H (.ref a)) (hx : SqL K H a xs) (hp : ∀ i x, xs[i]? = some x → ∃ t, x = .ref t ∧ SqT K H t [f i, g i]) (hz : xs.length < sizeLine)
    (hw : ∀ a b, wipe (((wipe σ vs).set j (some a)).set k (some b)) vs = wipe σ vs)
    (he : ∀ (i : Nat) H1, Ex H H1 → i < xs.length → Ev te (((wipe σ vs).set j (some (f i))).set k (some (g i))) H1 (v i)) :
    EvL (tLc (iList K tl) (gTup K 2 (gCons (gName j) (gCons (gName k) gNil))) tYes te vs) σ H ((List.range xs.length).map v) := fun H0 e Q q => h H0 e _ fun H1 e1 => ⟨a, rfl, ⟨xs, ex_l (e.trans e1) hx⟩, fun Dl hD => by
  refine lc_it (walk_list (xs := xs)) (fun i H' => Ex H1 H' ∧ H' Dl = some (.lst ((List.range i).map v))) ⟨Ex.new hD, upd_same⟩ (fun _ _ _ p => ex_l p.1 (ex_l (e.trans e1) hx)) (fun i z H2 H' hi p y' => ?_) (fun H' p => ?_)
  · obtain ⟨rfl, hy⟩ := y'
    obtain ⟨p2, p3⟩ := p
    obtain ⟨t, rfl, ht⟩ := hp i z hy
    refine ⟨t, _, rfl, ex_t p2 (ex_t (e.trans e1) ht), rfl, _, _, rfl, _, _, rfl, rfl, hw _ _, ?_⟩
    refine yes_if ?_
    refine he i H' ((e.trans e1).trans p2) hi _ (Ex.refl _) _ fun H4 e4 => ⟨_, e4 _ _ p3, by rw [List.length_map, List.length_range]; omega, Ex.mut (p2.trans e4) hD, ?_⟩
    rw [upd_same, List.range_succ, List.map_append]
    rfl
  · exact q Dl H' (fresh_back e1 hD) (e1.trans p.1) p.2⟩
end
theorem putK_new {κ : Type} [DecidableEq κ] {kvs : List (κ × V)} {k : κ} {v : V} (h : valV kvs k = none) : putK kvs k v = kvs ++ [(k, v)] := by
  unfold putK
  rw [valV_any, h]
  rfl
end Qt
namespace Qt
open PySem PySem.Spec PyProof.Rows L2 Evl
/-- an own class whose instances have these fields -/
structure OwnC (K : PySem.W.Frag) (mg : Str → Option Value) (x : Str) (C f : Addr) (zs : List Str) : Prop where
  m : mg x = some (.ref C)
  cl : Cls K C
  mks : Mk K C f
  na : ∀ z ∈ zs, NoAttr K C z
structure OwnAt (K : PySem.W.Frag) (x : Str) (C f : Addr) (zs : List Str) : Prop where
  m : PySem.W.nsIn K mainGlobals x = some (some (.ref C))
  pg : PySem.W.plainGet K C Str.empty = true
  hd : PySem.W.hasDictIn K C = true
  po : PySem.W.plainOver K C = true
  sa : PySem.W.findIn K (.ref C) "__setattr__" = some (some (.builtin "object.__setattr__"))
  mks : PySem.W.makesIn K C = true
  it : PySem.W.findIn K (.ref C) "__init__" = some (some (.ref f))
  fn : PySem.W.isFn K (.ref f) = true
  kp : PySem.W.keepIn K (.ref C) = true
  na : ∀ z ∈ zs, PySem.W.findIn K (.ref C) z = some none
theorem OwnAt.own {K : PySem.W.Frag} {h : Heap} {mg : Str → Option Value} {x : Str} {C f : Addr} {zs : List Str} (X : K.In h) (G : h.Ns mainGlobals mg) (A : OwnAt K x C f zs) : OwnC K mg x C f zs :=
  ⟨PySem.W.mg_of X G A.m, ⟨A.pg, A.hd, A.po, A.sa⟩, ⟨A.mks, A.it, A.fn, A.kp⟩, A.na⟩
/-- a def of a class stands in the written part -/
def FnAt (K : PySem.W.Frag) (f : Addr) (n q : Str) (st : Stmt) : Prop := ∃ (oc : Value) (od : Option Addr) (kV dc pm : Value) (an : Option Addr) (cd ct : Value) (sl : Array (Option Value)),
  K.lookup f = some ⟨oc, od, .func (PySem.W.fnOf n q (defArgs st) (defBody st) (defScope st) .none kV dc pm an cd ct), sl⟩ ∧ PySem.W.codeIn K cd q = true ∧ PySem.W.keepIn K (.ref f) = true
theorem FnAt.mk {K : PySem.W.Frag} {f : Addr} {n q : Str} {st : Stmt} {oc : Value} {od : Option Addr} {kV dc pm : Value} {an : Option Addr} {cd ct : Value} {sl : Array (Option Value)}
    (l : K.lookup f = some ⟨oc, od, .func (PySem.W.fnOf n q (defArgs st) (defBody st) (defScope st) .none kV dc pm an cd ct), sl⟩) (c : PySem.W.codeIn K cd q = true) (k : PySem.W.keepIn K (.ref f) = true) : FnAt K f n q st := ⟨_, _, _, _, _, _, _, _, _, l, c, k⟩
theorem FnAt.fn {K : PySem.W.Frag} {f : Addr} {n q : Str} {st : Stmt} {ps : List Str} (D : FnAt K f n q st)
    (hb : ∀ (kV doc pm : Value) (an : Option Addr) (cdv ct : Value) (us : List Value), us.length = ps.length → bindArgs (PySem.W.fnOf n q (defArgs st) (defBody st) (defScope st) .none kV doc pm an cdv ct) ⟨us, []⟩ = pure (ps.zip us)) : ∃ fd, Fun K n q st f fd ∧ Binds K fd ps [] := by
  obtain ⟨oc, od, kV, dc, pm, an, cd, ct, sl, l, c, k⟩ := D
  have F := fun_mk (st := st) l c k
  exact ⟨_, F, F.binds hb⟩
def MethAt (K : PySem.W.Frag) (C : Addr) (n q : Str) (st : Stmt) : Prop := ∃ g, PySem.W.findIn K (.ref C) n = some (some (.ref g)) ∧ PySem.W.isFn K (.ref g) = true ∧ FnAt K g n q st
theorem MethAt.mk {K : PySem.W.Frag} {C g : Addr} {n q : Str} {st : Stmt} {oc : Value} {od : Option Addr} {kV dc pm : Value} {an : Option Addr} {cd ct : Value} {sl : Array (Option Value)} (a : PySem.W.findIn K (.ref C) n = some (some (.ref g))) (i : PySem.W.isFn K (.ref g) = true)
    (l : K.lookup g = some ⟨oc, od, .func (PySem.W.fnOf n q (defArgs st) (defBody st) (defScope st) .none kV dc pm an cd ct), sl⟩) (c : PySem.W.codeIn K cd q = true) (k : PySem.W.keepIn K (.ref g) = true) : MethAt K C n q st := ⟨g, a, i, .mk l c k⟩
def MethC (K : PySem.W.Frag) (C : Addr) (n q : Str) (st : Stmt) (ps : List Str) : Prop := ∃ g fd, Meth K C n g ∧ Fun K n q st g fd ∧ Binds K fd ps []
theorem MethAt.meth {K : PySem.W.Frag} {C : Addr} {n q : Str} {st : Stmt} {ps : List Str} (D : MethAt K C n q st)
    (hb : ∀ (kV doc pm : Value) (an : Option Addr) (cdv ct : Value) (us : List Value), us.length = ps.length → bindArgs (PySem.W.fnOf n q (defArgs st) (defBody st) (defScope st) .none kV doc pm an cdv ct) ⟨us, []⟩ = pure (ps.zip us)) : MethC K C n q st ps := by
  obtain ⟨g, a, i, oc, od, kV, dc, pm, an, cd, ct, sl, l, c, k⟩ := D
  have F := fun_mk (st := st) l c k
  exact ⟨g, _, ⟨a, i, k⟩, F, F.binds hb⟩
theorem KeysInt.cons {e : DictEntry} {r : List DictEntry} {k : Int} {t : Tok} (h1 : e.key = .int k t) (h2 : e.hash = hashInt k) (h : KeysInt r) : KeysInt (e :: r) := ⟨⟨k, t, h1, h2⟩, h⟩
theorem KeysInt.nil : KeysInt [] := trivial
theorem find_int (es : Array DictEntry) (i : Int) : findBy Value.isInt es i = (es.toList.find? fun d => Value.isInt i d.key).map (·.val) := by
  obtain ⟨l⟩ := es
  unfold findBy
  rw [List.find?_toArray]
theorem KDctI.mk {K : PySem.W.Frag} {p : Addr} {i : Int} {v : V} {es : Array DictEntry} {n : Nat} {u : Value} (h1 : K.lookup p = some ⟨.type "dict", none, .dict es n, #[]⟩) (h2 : KeysInt es.toList) (h3 : (es.toList.find? fun d => Value.isInt i d.key).map (·.val) = some u) (h4 : RelV v u) : KDctI K p i v :=
  ⟨es, n, u, h1, h2, by rw [find_int]; exact h3, h4⟩
/-- a written dict of ints -/
def TabI (K : PySem.W.Frag) (p : Addr) (l : List (Int × Int)) : Prop := ∀ kv ∈ l, KDctI K p kv.1 (.int kv.2)
end Qt
/-! max(d.values(), default=a number). -/
namespace Qt
open PySem PySem.Spec PyProof.Rows L2 Evl
theorem max_name : (toString "max" ++ toString ".loop" : String) = "max.loop" := by decide
section
variable {P : Program} {w : World} {dv : Value} {A : Around} {E : Value → Shared → Prop} {s : Shared}
theorem max_argsE (a d : Value) : argsOk "max" ⟨[a], kwE d⟩ := by unfold argsOk; kernel_rfl
section
variable {R : Result → Shared → Prop} {I S : Addr} {fp wr : List Addr} {n : Nat} {Pv : Nat → Value → Prop} {St : Nat → Heap → Prop}
theorem maxE_loop (W : Walks P w A.in1 I fp wr n Pv St) (bt : Nat → Nat → Bool) (hcmp : CmpOf P w A.in1 .Gt Pv bt) (hSf : S ∉ fp) :
    ∀ (k j : Nat) (s : Shared) (v : Value) (c : Nat), n - (j + 1) = k → j + 1 ≤ n → St (j + 1) s.heap → Pv (argBest bt j) v → s.heap.get? S = some (bestO #[v, v] c) →
    (∀ u h' tk, Pv (argBest bt (n - 1)) u → (∀ b o, b ∉ wr → b ≠ S → s.heap.get? b = some o → h'.get? b = some o) → R (.ok (.ret u)) { s with heap := h', toks := tk }) →
    codeAny (model P w) A (.builtin "max.loop" ⟨[.ref I, .none, .ref S], kwE dv⟩) R s := by
  have out : S ∉ wr := fun h => hSf (W.sub _ h)
  intro k
  induction k with
  | zero =>
    intro j s v c hk hj hst hP hS hR
    have hn : j + 1 = n := by omega
    refine codeAny_builtin F.entry_max_loop ?_
    rw [Around.under_plainId F.plain_max_loop _]
    show wpAny _ A.in1 (seqItems? (.ref S) >>= _) _ _ s
    refine wpAny_bind (wpAny_seqItems hS rfl ?_)
    show wpAny _ A.in1 (tryCatch (pyNext (.ref I)) _ >>= _) _ _ s
    refine wpAny_bind (wpAny_tryCatch (W.done s _ _ (hn ▸ hst) fun h' tk keep => ?_))
    have hS' := keep S _ out hS
    show wpAny _ A.in1 (updateSeq S (fun _ => #[]) >>= _) _ _ _
    refine wpAny_bind (wpAny_updateSeq hS' rfl (wpAny_bind (wpAny_letGo (wpAny_pure (hR v _ tk (by rw [← hn]; exact hP) fun b o b1 b2 e => ?_)))))
    exact (Heap.get?_update_other _ _ (Ne.symm b2)).trans (keep b o b1 e)
  | succ k ih =>
    intro j s v c hk hj hst hP hS hR
    have lt : j + 1 < n := by omega
    refine codeAny_builtin F.entry_max_loop ?_
    rw [Around.under_plainId F.plain_max_loop _]
    show wpAny _ A.in1 (seqItems? (.ref S) >>= _) _ _ s
    refine wpAny_bind (wpAny_seqItems hS rfl ?_)
    show wpAny _ A.in1 (tryCatch (pyNext (.ref I)) _ >>= _) _ _ s
    refine wpAny_bind (wpAny_tryCatch (W.item (j + 1) s _ _ lt hst fun u h' tk hu hst' keep => ?_))
    have hS' := keep S _ out hS
    show wpAny _ A.in1 (tryCatch (holding [u, u] (richCompare .Gt u v >>= _)) _ >>= _) _ _ _
    refine wpAny_bind (wpAny_tryCatch (wpAny_holding (wpAny_bind (hcmp (j + 1) (argBest bt j) u v _ _ _ hu hP (wpAny_bind (wpAny_holding (wpAny_truthy_bool (wpAny_bind (wpAny_letGo (wpAny_pure ?_))))))))))
    cases hb : bt (j + 1) (argBest bt j) with
    | true =>
      simp only [if_true]
      refine wpAny_bind (wpAny_updateSeq hS' rfl (wpAny_bind (wpAny_letGo ?_)))
      rw [max_name]
      refine wpAny_pure ⟨plainId_quiet F.plain_max_loop _, ih (j + 1) _ u _ (by omega) lt (W.frame _ _ _ hst' fun b hbf o e => ?_) (by simp only [argBest, hb, if_true]; exact hu) (Heap.get?_update_self _ hS' rfl) fun u' h2 tk2 hu' keep2 => ?_⟩
      · exact (Heap.get?_update_other _ _ (fun h : S = b => hSf (by rw [h]; exact hbf))).trans e
      · exact hR u' h2 tk2 hu' fun b o b1 b2 e => keep2 b o b1 b2 ((Heap.get?_update_other _ _ (Ne.symm b2)).trans (keep b o b1 e))
    | false =>
      simp only [Bool.false_eq_true, if_false]
      refine wpAny_bind (wpAny_letGo ?_)
      rw [max_name]
      exact wpAny_pure ⟨plainId_quiet F.plain_max_loop _, ih (j + 1) _ v c (by omega) lt hst' (by simp only [argBest, hb, Bool.false_eq_true, if_false]; exact hP) hS' fun u' h2 tk2 hu' keep2 => hR u' h2 tk2 hu' fun b o b1 b2 e => keep2 b o b1 b2 (keep b o b1 e)⟩
theorem maxE_first (W : Walks P w A.in1 I fp wr n Pv St) (bt : Nat → Nat → Bool) (hcmp : CmpOf P w A.in1 .Gt Pv bt) (hSf : S ∉ fp) {s : Shared} {c : Nat} (hst : St 0 s.heap) (hS : s.heap.get? S = some (bestO #[] c))
    (h0 : n = 0 → ∀ h' tk, (∀ b o, b ∉ wr → b ≠ S → s.heap.get? b = some o → h'.get? b = some o) → R (.ok (.ret dv)) { s with heap := h', toks := tk })
    (h1 : 0 < n → ∀ u h' tk, Pv (argBest bt (n - 1)) u → (∀ b o, b ∉ wr → b ≠ S → s.heap.get? b = some o → h'.get? b = some o) → R (.ok (.ret u)) { s with heap := h', toks := tk }) :
    codeAny (model P w) A (.builtin "max.loop" ⟨[.ref I, .none, .ref S], kwE dv⟩) R s := by
  have out : S ∉ wr := fun h => hSf (W.sub _ h)
  refine codeAny_builtin F.entry_max_loop ?_
  rw [Around.under_plainId F.plain_max_loop _]
  show wpAny _ A.in1 (seqItems? (.ref S) >>= _) _ _ s
  refine wpAny_bind (wpAny_seqItems hS rfl ?_)
  show wpAny _ A.in1 (tryCatch (pyNext (.ref I)) _ >>= _) _ _ s
  by_cases hn : n = 0
  · refine wpAny_bind (wpAny_tryCatch (W.done s _ _ (hn ▸ hst) fun h' tk keep => ?_))
    refine wpAny_bind (wpAny_rule ?_)
    exact wpAny_pure (h0 hn _ tk fun b o b1 b2 e => keep b o b1 e)
  · refine wpAny_bind (wpAny_tryCatch (W.item 0 s _ _ (by omega) hst fun u h' tk hu hst' keep => ?_))
    have hS' := keep S _ out hS
    show wpAny _ A.in1 (updateSeq S (fun _ => #[u, u]) >>= _) _ _ _
    refine wpAny_bind (wpAny_updateSeq hS' rfl ?_)
    rw [max_name]
    refine wpAny_pure ⟨plainId_quiet F.plain_max_loop _, maxE_loop W bt hcmp hSf _ 0 _ u _ rfl (by omega) (W.frame _ _ _ hst' fun b hbf o e => ?_) hu (Heap.get?_update_self _ hS' rfl) fun u' h2 tk2 hu' keep2 => ?_⟩
    · exact (Heap.get?_update_other _ _ (fun h : S = b => hSf (by rw [h]; exact hbf))).trans e
    · exact h1 (by omega) u' h2 tk2 hu' fun b o b1 b2 e => keep2 b o b1 b2 ((Heap.get?_update_other _ _ (Ne.symm b2)).trans (keep b o b1 e))
end
theorem maxE_vals {v d : Addr} {kvs : List (Key × Value)} {ep : Nat} (val : Nat → Int) (hv : ∀ (i : Nat) (k : Key) (u : Value), kvs[i]? = some (k, u) → ∃ t, u = Value.int (val i) t) {Q : Value → Shared → Prop} (hh : A.handled = none) (hl : s.heap.IsValuesView v d) (hm : s.heap.DictAt (mixKind P w) d kvs ep)
    (h0 : kvs.length = 0 → ∀ h' tk, (∀ b o, s.heap.get? b = some o → h'.get? b = some o) → Q dv { s with heap := h', toks := tk })
    (h1 : 0 < kvs.length → ∀ t h' tk, (∀ b o, s.heap.get? b = some o → h'.get? b = some o) → Q (.int (val (argBest (fun i j => decide (val i > val j)) (kvs.length - 1))) t) { s with heap := h', toks := tk }) :
    wpAny (model P w) A (call (.builtin "max") [.ref v] (kwE dv)) Q E s := by
  have hdl : d < s.heap.objs.size := by
    obtain ⟨o, es, ho, _⟩ := id hm
    exact Heap.lt_size ho
  refine kmk_tree F.kind_max F.plain_max F.entry_max (max_argsE _ _) ?_
  show wpAny _ A.in1 (Builtin.Builtins.bindParams "max" ["key", "default"] 0 ⟨[], kwE dv⟩ >>= _) _ _ s
  refine wpAny_bind (wpAny_of_eq (show Builtin.Builtins.bindParams "max" ["key", "default"] 0 ⟨[], kwE dv⟩ = pure [none, some dv] from rfl) ?_)
  refine wpAny_bind (wpAny_pure (wpAny_bind (wpAny_pyIter_values hl hm (wpAny_bind (wpAny_newList ?_ (Nat.zero_le _))))))
  rw [max_name]
  let ob : Obj := { cls := .type "dict_valueiterator", data := .fields #[.ref d, .int 0 0, .int kvs.length 0, .int ep 0] }
  have hz : (s.heap.push ob).objs.size = s.heap.objs.size + 1 := Heap.size_push ..
  have hdI : d ≠ s.heap.objs.size := Nat.ne_of_lt hdl
  have kept : ∀ {h' : Heap}, (∀ b o, b ∉ [s.heap.objs.size] → b ≠ (s.heap.push ob).objs.size → ((s.heap.push ob).push (seqObj "list" #[] 0)).get? b = some o → h'.get? b = some o) → ∀ b o, s.heap.get? b = some o → h'.get? b = some o := by
    intro h' k b o e
    have hb := Heap.lt_size e
    refine k b o (by rw [List.mem_singleton]; exact Nat.ne_of_lt hb) (by rw [hz]; exact Nat.ne_of_lt (Nat.lt_succ_of_lt hb)) (Heap.get?_push_of_some _ (Heap.get?_push_of_some _ e))
  refine wpAny_pure ⟨plainId_quiet F.plain_max_loop _, maxE_first (Walks.dictValues (knd := mixKind P w) (A := A.in1) (by simp [hh]) s.heap.objs.size d hdI kvs ep) (fun i j => decide (val i > val j)) (CmpOf.ints_gt val fun i u hu => ?_) (fun z => ?_) ⟨⟨_, Heap.get?_push_of_some _ (Heap.get?_push_size _ rfl), rfl, rfl⟩, ?_⟩ (Heap.get?_push_size _ rfl) (fun hn h' tk k => ?_) fun hn u h' tk hu k => ?_⟩
  · obtain ⟨k, hk⟩ := hu
    exact hv i k u hk
  · rcases List.mem_cons.mp z with z | z
    · rw [hz] at z
      exact absurd z (Nat.ne_of_gt (Nat.lt_succ_self _))
    · rw [hz] at z
      exact absurd (List.mem_singleton.mp z) (Nat.ne_of_gt (Nat.lt_succ_of_lt hdl))
  · exact (hm.push _).push _
  · exact h0 hn h' tk (kept k)
  · obtain ⟨k2, hk2⟩ := hu
    obtain ⟨t, rfl⟩ := hv _ _ _ hk2
    exact h1 hn t h' tk (kept k)
end
theorem paired_get {α β : Type} {F : α → β → Prop} : ∀ {l₁ : List α} {l₂ : List β}, Paired F l₁ l₂ → ∀ {i : Nat} {a : α}, l₁[i]? = some a → ∃ b, l₂[i]? = some b ∧ F a b
  | _, _, .nil, _, _, h => by cases h
  | _, _, .cons h r, 0, _, e => ⟨_, rfl, by
    obtain rfl := Option.some.inj e
    exact h⟩
  | _, _, .cons _ r, i + 1, _, e => paired_get (i := i) r e
/-- what d.values() gives -/
def ValV (v d : Addr) : HO := .ext fun h => h.IsValuesView v d
def tValV (td : TE) : TE := fun σ H Q => td σ H fun x H1 => ∃ (d : Addr) (kvs : List (Key × V)), x = .ref d ∧ H1 d = some (.dK kvs) ∧ ∀ v, H1 v = none → Q (.ref v) (upd H1 v (ValV v d))
def rMaxVD : List V → List V → Hp → VK → Prop := fun vs zs H Q => ∃ (v d : Addr) (kvs : List (Key × V)) (ns : List Int) (z0 : Int), vs = [.ref v] ∧ zs = [.int z0] ∧ H v = some (ValV v d) ∧ H d = some (.dK kvs) ∧ kvs.map (·.2) = ns.map V.int ∧
  (ns = [] → Q (.int z0) H) ∧ ∀ m, m ∈ ns → (∀ y, y ∈ ns → y ≤ m) → Q (.int m) H
section
variable {X : Cx} {e : Expr} {td : TE} {apos cpos : Pos}
theorem pe_valuesV (he : PE X e td) (hbase : attributeBase e "values" X.env (eval e X.env) = eval e X.env := by rfl) (hline : (apos.endLine == cpos.line) = true := by rfl) : PE X (.Call (.Attribute e "values" apos) [] [] cpos) (tValV td) := by
  refine ⟨fun pins s σ H Q I h => ?_⟩
  refine wpAny_Call_method (T := "dict") (id := "dict.values") hbase rfl hline F.plainAttrs_dict F.slot_dict_values F.type_dict_values (thn (he.run pins s σ H _ I h) fun u s1 ⟨x, H1, I1, rx, d, kvs, ex, hd, q⟩ => ?_)
  subst ex
  obtain rfl : u = Value.ref d := rx
  obtain ⟨_, hs, vs, _, hm⟩ := dk_of I1.hok hd
  refine ⟨hm.typeIs, hm.mapOf.noDict, ?_⟩
  show wpAny _ _ (callWith cpos (.builtin "dict.values") [.ref d] [] []) _ X.xe s1
  refine method_meetsIn F.slot_dict_values F.entry_dict_values rfl (PySem.evalArgs_none ⟨rfl, hm.typeIs, F.args_dict_values_1 _, _, meets_dict_values (mixKind X.prog X.w) d hs, ⟨vs, hm⟩, ?_⟩)
  refine ⟨.ref s1.heap.objs.size, upd H1 s1.heap.objs.size (ValV s1.heap.objs.size d), I1.laid (t' := s1.toks) (fun b o e => Heap.get?_push_of_some _ e) (Nat.le_refl _) ?_, rfl, q _ (I1.hok.fresh (Nat.le_refl _))⟩
  exact ⟨⟨_, Heap.get?_push_size _ rfl, rfl, rfl⟩, ⟨_, Heap.get?_push_size _ rfl⟩, fun h1 h2 p k => let ⟨o, ho, r⟩ := p; ⟨o, k _ ho, r⟩⟩
theorem cr_maxVD (hc : X.calm = true) : CallRK X (.builtin "max") [PySem.Str.ofString "default"] rMaxVD := by
  intro pins s σ H xs zs us ws Q I r rz h
  obtain ⟨v, d, kvs, ns, z0, rfl, rfl, hv, hd, hn, q0, q1⟩ := h
  rw [Vals.ref1 r]
  obtain ⟨w1, rfl, e1⟩ := vals1 rz
  obtain ⟨t1, rfl⟩ := e1
  obtain ⟨_, _, vs, kv, o, es, ep, hm⟩ := dk_of I.hok hd
  have hl : kvs.length = vs.length := Paired.length kv
  have hnl : kvs.length = ns.length := by
    have z := congrArg List.length hn
    rw [List.length_map, List.length_map] at z
    exact z
  have hview := (I.hok v _ hv).1
  refine maxE_vals (ep := ep) (kvs := vs) (fun i => ns.getD i 0) (fun i k u hk => ?_) (I.ok.hd hc) hview ⟨o, es, hm⟩ (fun h0 h' tk kk => ?_) fun h0 t h' tk kk => ?_
  · have hi := (List.getElem?_eq_some_iff.mp hk).1
    have hi2 : i < kvs.length := by omega
    obtain ⟨y, hy, ry⟩ := paired_get kv (i := i) (List.getElem?_eq_getElem hi2)
    rw [hk] at hy
    cases hy
    have hx : (kvs.map (·.2))[i]? = some (kvs[i]).2 := by rw [List.getElem?_map, List.getElem?_eq_getElem hi2]; rfl
    rw [hn, List.getElem?_map, List.getElem?_eq_getElem (by omega)] at hx
    have hx := Option.some.inj hx
    have r2 := ry.2
    rw [← hx] at r2
    obtain ⟨t, ht⟩ := r2
    have ht : u = Value.int _ t := ht
    refine ⟨t, ?_⟩
    rw [ht, List.getD_eq_getElem?_getD, List.getElem?_eq_getElem (by omega)]
    rfl
  · exact ⟨.int z0, H, I.kept (t' := tk) kk, ⟨_, rfl⟩, q0 (List.eq_nil_of_length_eq_zero (by omega))⟩
  · obtain ⟨b1, b2⟩ := argBest_gt (fun i => ns.getD i 0) (vs.length - 1)
    refine ⟨.int _, H, I.kept (t' := tk) kk, ⟨t, rfl⟩, q1 _ ?_ fun z hz => ?_⟩
    · have hi : argBest (fun i j => decide (ns.getD i 0 > ns.getD j 0)) (vs.length - 1) < ns.length := by omega
      rw [List.getD_eq_getElem?_getD, List.getElem?_eq_getElem hi]
      exact List.getElem_mem hi
    · obtain ⟨j, hj, rfl⟩ := List.getElem_of_mem hz
      have := b2 j (by omega)
      rw [List.getD_eq_getElem?_getD (i := j), List.getElem?_eq_getElem hj] at this
      exact this
end
end Qt
/-! A dict comprehension over a new list, with a test, all keys different. -/
namespace Qt
open PySem PySem.Spec PyProof.Rows L2 Evl
def EvD (te : TE) (σ : L2.St) (H : Hp) (kvs : List (Key × V)) : Prop := ∀ H1, Ex H H1 → ∀ Q : VK, (∀ p H2, H1 p = none → Ex H1 H2 → H2 p = some (.dK kvs) → Q (.ref p) H2) → te σ H1 Q
theorem valV_none {κ : Type} [DecidableEq κ] {kvs : List (κ × V)} {k : κ} (h : ∀ p ∈ kvs, p.1 ≠ k) : valV kvs k = none := by
  unfold valV
  have z : (kvs.find? fun kv => decide (kv.1 = k)) = none := List.find?_eq_none.mpr fun p hp => by simpa using h p hp
  rw [z]
  rfl
theorem el_dcL {K : PySem.W.Frag} {σ : L2.St} {H : Hp} {tl tk tv : TE} {tt : TT} {j : Nat} {vs : List Nat} {xs : List V} (f : Nat → Bool) (kf : Nat → Key) (vf : Nat → V) (h : EvL tl σ H xs) (hz : xs.length ≤ 40000) (hw : ∀ x, wipe ((wipe σ vs).set j (some x)) vs = wipe σ vs)
    (hn : ∀ a b, a < b → b < xs.length → kf a ≠ kf b) (ht : ∀ (i : Nat) (x : V) H1, Ex H H1 → xs[i]? = some x → EvT tt ((wipe σ vs).set j (some x)) H1 (f i))
    (hk : ∀ (i : Nat) (x : V) H1, Ex H H1 → xs[i]? = some x → f i = true → Ev tk ((wipe σ vs).set j (some x)) H1 (kV (kf i))) (hv : ∀ (i : Nat) (x : V) H1, Ex H H1 → xs[i]? = some x → f i = true → Ev tv ((wipe σ vs).set j (some x)) H1 (vf i)) :
    EvD (tDc (iList K tl) (gName j) tt tk tv vs) σ H (((List.range xs.length).filter f).map fun i => (kf i, vf i)) := fun H0 e Q q => h H0 e _ fun a H1 na e1 hx => ⟨a, rfl, ⟨xs, sq_of hx⟩, fun D hD => by
  have ll : ∀ i, (((List.range i).filter f).map fun i => (kf i, vf i)).length ≤ i := fun i => by
    have z := List.length_filter_le f (List.range i)
    rw [List.length_map]
    rw [List.length_range] at z
    exact z
  refine ⟨fun i m H' => m = xs.length - i ∧ i ≤ xs.length ∧ Ex H1 H' ∧ H' D = some (.dK (((List.range i).filter f).map fun i => (kf i, vf i))), ⟨xs.length, by simp, Nat.zero_le _, Ex.new hD, upd_same⟩, ?_⟩
  rintro i m H' ⟨rfl, hi, eH, hd⟩
  by_cases hlt : i < xs.length
  · refine .inr ⟨⟨xs, xs[i], sq_of (eH _ _ hx), by simp [hlt]⟩, _, fun H'' p' => ⟨xs.length - (i + 1), by omega, rfl, hlt, p'⟩, fun x H'' y => ?_⟩
    obtain ⟨rfl, y⟩ := y
    have hxi := y xs (sq_of (eH _ _ hx))
    have e0 := (e.trans e1).trans eH
    refine ⟨hw _, ht i x _ e0 hxi _ (Ex.refl _) _ fun H3 e3 => ?_⟩
    cases hf : f i with
    | true =>
      refine iteT (hk i x _ (e0.trans e3) hxi hf _ (Ex.refl _) _ fun H4 e4 => hv i x _ ((e0.trans e3).trans e4) hxi hf _ (Ex.refl _) _ fun H5 e5 => ?_)
      have e35 := (e3.trans e4).trans e5
      refine ⟨_, kf i, rfl, e35 _ _ hd, Nat.lt_of_le_of_lt (ll i) (by rw [sizeLine_eq]; omega), Ex.mut (eH.trans e35) hD, ?_⟩
      rw [upd_same, putK_new (valV_none fun p hp => ?_), List.range_succ, List.filter_append, List.map_append, List.filter_cons_of_pos hf]
      · rfl
      · obtain ⟨b, hb, rfl⟩ := List.mem_map.mp hp
        exact hn b i (List.mem_range.mp (List.mem_filter.mp hb).1) hlt
    | false =>
      refine iteF ?_
      refine ⟨eH.trans e3, ?_⟩
      rw [List.range_succ, List.filter_append, List.filter_cons_of_neg (by rw [hf]; simp), List.filter_nil, List.append_nil]
      exact e3 _ _ hd
  · obtain rfl : i = xs.length := by omega
    exact .inl ⟨⟨xs, sq_of (eH _ _ hx), Nat.le_refl _⟩, q D H' (fresh_back e1 hD) (e1.trans eH) hd⟩⟩
end Qt
/-! Dict comprehensions over any walk; over numbered items; over a dict's keys. A def with a default. x |= y. -/
namespace Qt
open PySem PySem.Spec PyProof.Rows L2 Evl
theorem ip_or {X : Cx} : PIp X .BitOr (ipI fun i j => Builtin.bitOr i j) := by
  intro pins s σ H x y v u Q I r1 r2 h
  obtain ⟨i, j, e1, e2, q⟩ := h
  subst e1; subst e2
  obtain ⟨t, rfl⟩ := r1
  obtain ⟨t', rfl⟩ := r2
  exact ior_int ⟨.int _, H, I.tok _, ⟨_, rfl⟩, q⟩
section
variable {J : It} {n : Nat} {G : Hp → Prop} {Y : Nat → Hp → V → Hp → Prop}
theorem dc_it (w : Walk J n G Y) {g : TG} {tt : TT} {tk tv : TE} {vs : List Nat} {σ : L2.St} {H1 : Hp} {D : Addr} {Qd : Hp → Prop} (Pv : Nat → Hp → Prop) (h0 : Pv 0 (upd H1 D (.dK []))) (hG : ∀ i H, i ≤ n → Pv i H → G H)
    (hs : ∀ i x H H', i < n → Pv i H → Y i H x H' → g x (wipe σ vs) H' fun σ2 H2 => wipe σ2 vs = wipe σ vs ∧ tt σ2 H2 fun b H3 =>
      if b = true then tk σ2 H3 fun y H4 => tv σ2 H4 fun z H5 => ∃ kvs k, y = kV k ∧ H5 D = some (.dK kvs) ∧ kvs.length < sizeLine ∧ Pv (i + 1) (upd H5 D (.dK (putK kvs k z))) else Pv (i + 1) H3) (hd : ∀ H, Pv n H → Qd H) :
    ∃ W : Nat → Nat → Hp → Prop, (∃ m, W 0 m (upd H1 D (.dK []))) ∧ ∀ i m H, W i m H →
      (J.stop i H ∧ Qd H) ∨ (J.go i H ∧ ∃ Nx : Hp → Prop, (∀ H', Nx H' → ∃ m', m' < m ∧ W (i + 1) m' H') ∧ ∀ x H', J.yld i H x H' → g x (wipe σ vs) H' fun σ2 H2 => wipe σ2 vs = wipe σ vs ∧ tt σ2 H2 fun b H3 =>
        if b = true then tk σ2 H3 fun y H4 => tv σ2 H4 fun z H5 => ∃ kvs k, y = kV k ∧ H5 D = some (.dK kvs) ∧ kvs.length < sizeLine ∧ Nx (upd H5 D (.dK (putK kvs k z))) else Nx H3) := by
  refine ⟨fun i m H => m = n - i ∧ i ≤ n ∧ Pv i H, ⟨n, by simp, Nat.zero_le _, h0⟩, ?_⟩
  rintro i m H ⟨rfl, hi, p⟩
  have q := hG i H hi p
  by_cases hlt : i < n
  · exact .inr ⟨w.goes i H hlt q, Pv (i + 1), fun H' p' => ⟨n - (i + 1), by omega, rfl, hlt, p'⟩, fun x H' y => hs i x H H' hlt p (w.yields i H x H' hlt q y)⟩
  · obtain rfl : i = n := by omega
    exact .inl ⟨w.stops H q, hd H p⟩
end
/-- n entries with the keys kf, each value as R tells -/
def DRel (R : Nat → V → Hp → Prop) (kf : Nat → Key) (n : Nat) (kvs : List (Key × V)) (H : Hp) : Prop := kvs.length = n ∧ ∀ i, i < n → ∃ v, kvs[i]? = some (kf i, v) ∧ R i v H
theorem DRel.nil {R : Nat → V → Hp → Prop} {kf : Nat → Key} {H : Hp} : DRel R kf 0 [] H := ⟨rfl, fun _ h => absurd h (Nat.not_lt_zero _)⟩
theorem DRel.snoc {R : Nat → V → Hp → Prop} {kf : Nat → Key} {n : Nat} {kvs : List (Key × V)} {H H1 : Hp} {v : V} (h : DRel R kf n kvs H) (m : ∀ i v, R i v H → R i v H1) (hv : R n v H1) : DRel R kf (n + 1) (kvs ++ [(kf n, v)]) H1 :=
  ⟨by rw [List.length_append, h.1]; rfl, fun i hi => by
    rcases Nat.lt_or_ge i n with z | z
    · obtain ⟨u, a, b⟩ := h.2 i z
      exact ⟨u, by rw [List.getElem?_append_left (by rw [h.1]; exact z)]; exact a, m i u b⟩
    · obtain rfl : i = n := by omega
      exact ⟨v, by rw [List.getElem?_append_right (by rw [h.1]; exact Nat.le_refl _), h.1, Nat.sub_self]; rfl, hv⟩⟩
theorem DRel.new {R : Nat → V → Hp → Prop} {kf : Nat → Key} {n : Nat} {kvs : List (Key × V)} {H : Hp} {k : Key} (h : DRel R kf n kvs H) (hn : ∀ a, a < n → kf a ≠ k) : valV kvs k = none := valV_none fun p hp => by
  obtain ⟨i, hi, e⟩ := List.getElem_of_mem hp
  obtain ⟨v, a, _⟩ := h.2 i (by rw [← h.1]; exact hi)
  rw [List.getElem?_eq_getElem hi, e] at a
  rw [Option.some.inj a]
  exact hn i (by rw [← h.1]; exact hi)
theorem valV_app {κ : Type} [DecidableEq κ] {k : κ} : ∀ {a b : List (κ × V)}, valV a k = none → valV (a ++ b) k = valV b k
  | [], _, _ => rfl
  | p :: r, b, h => by
    by_cases e : p.1 = k
    · rw [valV_pos e] at h
      cases h
    · rw [valV_neg e] at h
      rw [List.cons_append, valV_neg e]
      exact valV_app h
theorem DRel.at {R : Nat → V → Hp → Prop} {kf : Nat → Key} : ∀ {n : Nat} {kvs : List (Key × V)} {H : Hp}, DRel R kf n kvs H → (∀ a b, a < b → b < n → kf a ≠ kf b) → ∀ i, i < n → ∃ v, valV kvs (kf i) = some v ∧ R i v H := fun {n kvs H} h hn i hi => by
  obtain ⟨v, a, b⟩ := h.2 i hi
  refine ⟨v, ?_, b⟩
  have hi' : i < kvs.length := by rw [h.1]; exact hi
  have e := (List.take_append_drop i kvs).symm
  rw [e, valV_app, List.drop_eq_getElem_cons hi', valV_pos]
  · rw [List.getElem?_eq_getElem hi'] at a
    rw [Option.some.inj a]
  · rw [List.getElem?_eq_getElem hi'] at a
    rw [Option.some.inj a]
  · refine valV_none fun p hp => ?_
    obtain ⟨j, hj, ej⟩ := List.getElem_of_mem hp
    rw [List.length_take] at hj
    obtain ⟨u, c, _⟩ := h.2 j (by omega)
    rw [List.getElem_take] at ej
    rw [List.getElem?_eq_getElem (by omega), ej] at c
    rw [Option.some.inj c]
    exact hn j i (by omega) hi
/-- {kf: v for j, k in enumerate(a new list)}, keys all different -/
theorem el_dcE {K : PySem.W.Frag} {σ : L2.St} {H : Hp} {te tk tv : TE} {j k : Nat} {vs : List Nat} {xs : List V} (kf : Nat → Key) (vf : Nat → V) (h : EvL te σ H xs) (hz : xs.length ≤ 40000)
    (hw : ∀ a b, wipe (((wipe σ vs).set j (some a)).set k (some b)) vs = wipe σ vs) (hn : ∀ a b, a < b → b < xs.length → kf a ≠ kf b)
    (hk : ∀ (i : Nat) y H1, Ex H H1 → xs[i]? = some y → Ev tk (((wipe σ vs).set j (some (.int (i : Int)))).set k (some y)) H1 (kV (kf i)))
    (hv : ∀ (i : Nat) y H1, Ex H H1 → xs[i]? = some y → Ev tv (((wipe σ vs).set j (some (.int (i : Int)))).set k (some y)) H1 (vf i)) :
    EvD (tDc (iEnum K (tCons te tNil)) (gTup K 2 (gCons (gName j) (gCons (gName k) gNil))) tYes tk tv vs) σ H ((List.range xs.length).map fun i => (kf i, vf i)) := fun H0 e Q q => h H0 e _ fun a H1 na e1 hx => ⟨a, xs, rfl, sq_of hx, fun D hD => by
  refine dc_it (walk_enum (K := K) (a := a) (xs := xs)) (fun i H' => Ex H1 H' ∧ H' D = some (.dK ((List.range i).map fun i => (kf i, vf i)))) ⟨Ex.new hD, upd_same⟩ (fun _ _ _ p => sq_of (p.1 _ _ hx)) (fun i z H2 H' hi p y' => ?_) (fun H' p => q D H' (fresh_back e1 hD) (e1.trans p.1) p.2)
  obtain ⟨T, n, y, rfl, nT, rfl, hn', hy⟩ := y'
  obtain rfl : V.int (i : Nat) = n := Option.some.inj hn'
  obtain ⟨p1, p2⟩ := p
  have nTD : D ≠ T := ne_of_none p2 nT
  have eT := Ex.new (o := .tup [.int (i : Nat), y]) nT
  refine ⟨T, _, rfl, st_of upd_same, rfl, _, _, rfl, _, _, rfl, rfl, hw _ _, ?_⟩
  refine yes_if ?_
  have e0 := ((e.trans e1).trans p1).trans eT
  refine hk i y _ e0 hy _ (Ex.refl _) _ fun H4 e4 => hv i y _ (e0.trans e4) hy _ (Ex.refl _) _ fun H5 e5 => ?_
  have e45 := e4.trans e5
  refine ⟨_, kf i, rfl, e45 _ _ (eT _ _ p2), by rw [List.length_map, List.length_range, sizeLine_eq]; omega, Ex.mut ((p1.trans eT).trans e45) hD, ?_⟩
  rw [upd_same, putK_new (valV_none fun p hp => ?_), List.range_succ, List.map_append]
  · rfl
  · obtain ⟨b, hb, rfl⟩ := List.mem_map.mp hp
    exact hn b i (List.mem_range.mp hb) hi⟩
/-- back from a frozen dict -/
theorem ex_thaw {H H' : Hp} {d : Addr} {od : Obj} {u : HO} (h : H d = some u) (e : Ex (upd H d (.frz od u)) H') : Ex H (upd H' d u) := fun a o ha => by
  by_cases z : a = d
  · rw [z, h] at ha
    rw [z, upd_same]
    exact ha
  · rw [upd_ne z]
    exact e a o (by rw [upd_ne z]; exact ha)
/-- {j: v for j in a dict}, the values as R tells -/
theorem el_dcK {K : PySem.W.Frag} {σ : L2.St} {H : Hp} {td tv : TE} {d : Addr} {j : Nat} {vs : List Nat} {kvs : List (Key × V)} (R : Nat → V → Hp → Prop) (kf : Nat → Key) (h : ∀ H1 od, Ev td σ (upd H1 d (.frz od (.dK kvs))) (.ref d)) (hd : H d = some (.dK kvs)) (hz : kvs.length ≤ 40000)
    (hkf : ∀ i, i < kvs.length → ∃ v, kvs[i]? = some (kf i, v)) (hn : ∀ a b, a < b → b < kvs.length → kf a ≠ kf b)
    (hw : ∀ x, wipe ((wipe σ vs).set j (some x)) vs = wipe σ vs) (hj : ∀ x, ((wipe σ vs).set j (some x))[j]? = some (some x))
    (hR : ∀ i v H1 H2 x, (∃ kv od, H1 x = some (.dK kv) ∨ H1 x = some (.frz od (.dK kv))) → (∀ a o, a ≠ x → H1 a = some o → H2 a = some o) → R i v H1 → R i v H2)
    (hv : ∀ (i : Nat) v H1, kvs[i]? = some (kf i, v) → (∃ H0 od, Ex H H0 ∧ Ex (upd H0 d (.frz od (.dK kvs))) H1 ∧ H1 d = some (.frz od (.dK kvs))) → ∀ Q : VK, (∀ v H2, Ex H1 H2 → R i v H2 → Q v H2) → tv ((wipe σ vs).set j (some (kV (kf i)))) H1 Q)
    {H0 : Hp} (e : Ex H H0) {Q : VK} (q : ∀ p kvs' H2, H0 p = none → Ex H0 H2 → H2 p = some (.dK kvs') → DRel R kf kvs.length kvs' H2 → Q (.ref p) H2) :
    tLockE (tDc (iKeys td) (gName j) tYes (tVar j) tv vs) σ H0 Q := by
  have hd0 := e _ _ hd
  refine ⟨d, .dK kvs, hd0, trivial, fun od => ?_⟩
  refine h H0 od _ (Ex.refl _) _ fun H1 e1 => ?_
  have hz1 : H1 d = some (.frz od (.dK kvs)) := e1 _ _ upd_same
  refine ⟨d, od, rfl, .inl ⟨kvs, hz1, fun D nD => ?_⟩⟩
  have Dd : D ≠ d := fun z => by rw [z, hz1] at nD; cases nD
  have nD0 : H0 D = none := by
    have := fresh_back e1 nD
    rwa [upd_ne Dd] at this
  refine dc_it (walk_keys (d := d) (o := od) (kvs := kvs)) (fun i H' => Ex H1 H' ∧ ∃ kv', H' D = some (.dK kv') ∧ DRel R kf i kv' H') ⟨Ex.new nD, [], upd_same, DRel.nil⟩ (fun i H' _ p => p.1 _ _ hz1) (fun i x G H' hi p y => ?_) (fun H' p => ?_)
  · obtain ⟨rfl, kk, v, hkv, rfl⟩ := y
    obtain ⟨p1, kv', p2, p3⟩ := p
    obtain ⟨v', hkf'⟩ := hkf i hi
    have ek : kk = kf i := by
      rw [hkv] at hkf'
      exact congrArg Prod.fst (Option.some.inj hkf')
    subst ek
    refine ⟨hw _, yes_if ?_⟩
    refine ⟨_, hj _, hv i v _ hkv ⟨H0, od, e, e1.trans p1, p1 _ _ hz1⟩ _ fun u H3 e3 hu => ?_⟩
    refine ⟨kv', kf i, rfl, e3 _ _ p2, by rw [p3.1, sizeLine_eq]; omega, Ex.mut (p1.trans e3) nD, kv' ++ [(kf i, u)], ?_, ?_⟩
    · rw [upd_same, putK_new (p3.new fun a ha => hn a i ha hi)]
    · exact p3.snoc (fun i v r => hR i v _ _ D ⟨kv', od, .inl (e3 _ _ p2)⟩ (fun a o hx hh => by rw [upd_ne hx]; exact hh) (hR i v _ _ D ⟨kv', od, .inl p2⟩ (fun a o _ hh => e3 _ _ hh) r)) (hR i u _ _ D ⟨kv', od, .inl (e3 _ _ p2)⟩ (fun a o hx hh => by rw [upd_ne hx]; exact hh) hu)
  · obtain ⟨p1, kv', p2, p3⟩ := p
    refine ⟨p1 _ _ hz1, q D kv' _ nD0 (ex_thaw hd0 (e1.trans p1)) (by rw [upd_ne Dd]; exact p2) ⟨p3.1, fun i hi => ?_⟩⟩
    obtain ⟨v, a, b⟩ := p3.2 i hi
    exact ⟨v, a, hR i v _ _ d ⟨kvs, od, .inr (p1 _ _ hz1)⟩ (fun x o hx hh => by rw [upd_ne hx]; exact hh) b⟩
/-! ### a def with one default -/
section
variable (P : Program) (w : World) (K : PySem.W.Frag) (mg : Str → Option Value) (base : Heap)
def EntD (x : Str) (st : Stmt) (ps : List Str) (d : Int) : Prop := ∃ (f : Addr) (fd : FuncData) (ds : List Value), FunD K x x (defArgs st) (defBody st) (defScope st) [.int d] [] f fd ∧ mg x = some (.ref f) ∧ Binds K fd ps [] ∧ Vals [V.int d] ds ∧ Binds K fd ps ds
def CalD (CX : CXT) (k : Nat) (x : Str) (ps : List Str) (sp : Sp) (d : Int) : Prop := ∃ (f : Addr) (fd : FuncData) (ds : List Value), FnOk P w K mg base CX k f fd ps sp ∧ mg x = some (.ref f) ∧ PySem.W.keepIn K (.ref f) = true ∧ Binds K fd ps [] ∧ Vals [V.int d] ds ∧ Binds K fd ps ds
end
theorem FunD.ok0 {P : Program} {w : World} {K : PySem.W.Frag} {mg : Str → Option Value} {base : Heap} {x qual : Str} {params : Arguments} {body : List Stmt} {scope : Scope} {dvs : List V} {kws : List (Str × V)} {f : Addr} {fd : FuncData} {N ps : List Str} {k : Nat} {sp : Sp}
    (F : FunD K x qual params body scope dvs kws f fd) (S : FnScope N ps scope) (len : ∀ vs H Q E, sp vs H Q E → vs.length = ps.length)
    (hbody : ∀ (cdv : Value) (A : Around) (outer : List Env) (s : Shared) (H : Hp) (vs : List V) (Q : VK) (E : XK), Room k (A.deeper (envOfC qual scope s.heap.objs.size f cdv)) → sp vs H Q E →
      ∃ t, PSs (cxOf CX0 P w K mg base N qual scope f cdv A outer s H E).nox body t ∧ t { nx := fun _ H' => Q .non H', rt := Q } (start N vs) H) : FnOk P w K mg base CX0 (k + 1) f fd ps sp :=
  F.ok S len fun cdv A outer s H vs Q E hr h => by
    obtain ⟨t, h1, h2⟩ := hbody cdv A outer s H vs Q E hr h
    exact ⟨t, h1.nox, h2⟩
def DefAtD (K : PySem.W.Frag) (x : Str) (st : Stmt) (d : Int) : Prop := ∃ (f : Addr) (oc : Value) (od : Option Addr) (kV dc pm : Value) (an : Option Addr) (cd ct : Value) (sl : Array (Option Value)) (T : Addr) (o : Obj) (its : List Value) (n : Nat),
  PySem.W.nsIn K mainGlobals x = some (some (.ref f)) ∧ K.lookup f = some ⟨oc, od, .func (PySem.W.fnOf x x (defArgs st) (defBody st) (defScope st) (.ref T) kV dc pm an cd ct), sl⟩ ∧ PySem.W.codeIn K cd x = true ∧ PySem.W.keepIn K (.ref f) = true ∧ K.lookup T = some o ∧ o.data = .seq its.toArray n ∧ Vals [V.int d] its
theorem DefAtD.mk {K : PySem.W.Frag} {x : Str} {st : Stmt} {d : Int} {f : Addr} {oc : Value} {od : Option Addr} {kV dc pm : Value} {an : Option Addr} {cd ct : Value} {sl : Array (Option Value)} {T : Addr} {c2 : Value} {d2 : Option Addr} {u : Value} {n : Nat} {s2 : Array (Option Value)}
    (a : PySem.W.nsIn K mainGlobals x = some (some (.ref f))) (l : K.lookup f = some ⟨oc, od, .func (PySem.W.fnOf x x (defArgs st) (defBody st) (defScope st) (.ref T) kV dc pm an cd ct), sl⟩) (c : PySem.W.codeIn K cd x = true) (k : PySem.W.keepIn K (.ref f) = true)
    (l2 : K.lookup T = some ⟨c2, d2, .seq #[u] n, s2⟩) (hv : RelV (.int d) u) : DefAtD K x st d := ⟨f, oc, od, kV, dc, pm, an, cd, ct, sl, T, _, [u], n, a, l, c, k, l2, rfl, .cons hv .nil⟩
theorem DefAtD.ent {K : PySem.W.Frag} {h : Heap} {mg : Str → Option Value} {x : Str} {st : Stmt} {d : Int} {ps : List Str} {n : Nat} (D : DefAtD K x st d) (X : K.In h) (G : h.Ns mainGlobals mg) (hn : n + 1 = ps.length)
    (h1 : ∀ (T : Addr) (kV doc pm : Value) (an : Option Addr) (cdv ct : Value) (us its : List Value), us.length = n + 1 → its.length = 1 → ∃ k, bindArgs (PySem.W.fnOf x x (defArgs st) (defBody st) (defScope st) (.ref T) kV doc pm an cdv ct) ⟨us, []⟩ = seqItems? (.ref T) >>= k ∧ k (some its.toArray) = pure (ps.zip (us ++ its.drop 1)))
    (h0 : ∀ (T : Addr) (kV doc pm : Value) (an : Option Addr) (cdv ct : Value) (us its : List Value), us.length = n → its.length = 1 → ∃ k, bindArgs (PySem.W.fnOf x x (defArgs st) (defBody st) (defScope st) (.ref T) kV doc pm an cdv ct) ⟨us, []⟩ = seqItems? (.ref T) >>= k ∧ k (some its.toArray) = pure (ps.zip (us ++ its.drop 0))) : EntD K mg x st ps d := by
  obtain ⟨f, oc, od, kV, dc, pm, an, cd, ct, sl, T, o, its, m, a, l, c, k, l2, e2, v2⟩ := D
  have F : FunD K x x (defArgs st) (defBody st) (defScope st) [.int d] [] f (PySem.W.fnOf x x (defArgs st) (defBody st) (defScope st) (.ref T) kV dc pm an cd ct) :=
    ⟨⟨oc, od, _, kV, dc, pm, an, cd, ct, sl, rfl, l, c, .inr ⟨by simp, T, o, its, m, rfl, l2, e2, v2⟩, .inl rfl⟩, k⟩
  obtain ⟨d1, r1, b1⟩ := F.binds1 (ps := ps) (n + 1) 1 (by simp) (by simpa using hn) h1
  obtain ⟨d0, r0, b0⟩ := F.binds1 (ps := ps) n 0 (by simp) (by simpa using hn) h0
  cases r1
  exact ⟨f, _, d0, F, PySem.W.mg_of X G a, b1, r0, b0⟩
/-! ### what evaluates to something that R tells; two names unpacked -/
def EvR (te : TE) (σ : L2.St) (H : Hp) (R : V → Hp → Prop) : Prop := ∀ H1, Ex H H1 → ∀ Q : VK, (∀ v H2, Ex H1 H2 → R v H2 → Q v H2) → te σ H1 Q
section
variable {K : PySem.W.Frag} {σ : L2.St} {H : Hp} {td ty tx te : TE} {D : Ends} {tz : TS}
theorem ev_dget {a : Addr} {kvs : List (Key × V)} {k : Key} {v : V} (h : Ev td σ H (.ref a)) (hk : Ev ty σ H (kV k)) (ha : H a = some (.dK kvs)) (hv : valV kvs k = some v) : Ev (tDGet td ty) σ H v := fun H1 e Q q =>
  h H1 e _ fun H2 e2 => hk H2 (e.trans e2) _ fun H3 e3 => ⟨a, v, rfl, by rw [← hv]; exact DGet.k (((e.trans e2).trans e3) _ _ ha), q H3 (e2.trans e3)⟩
theorem er_dget2 {a : Addr} {kvs : List (Key × V)} {k : Key} {ds : List V} (h : Ev td σ H (.ref a)) (hk : Ev ty σ H (kV k)) (hx : EvU tx σ H ds) (ha : H a = some (.dK kvs)) :
    EvR (tDGet2 td ty tx) σ H (fun v H2 => ∃ t, H2 t = some (.tup ds) ∧ v = (valV kvs k).getD (.ref t)) := fun H1 e Q q =>
  h H1 e _ fun H2 e2 => ⟨a, rfl, .inl ⟨kvs, .inl ((e.trans e2) _ _ ha)⟩, hk H2 (e.trans e2) _ fun H3 e3 => hx H3 ((e.trans e2).trans e3) _ fun t H4 nt e4 ht => ⟨_, DGet.k ((((e.trans e2).trans e3).trans e4) _ _ ha), q _ H4 ((e2.trans e3).trans e4) ⟨t, ht, rfl⟩⟩⟩
theorem er_of {v : V} {R : V → Hp → Prop} (h : Ev te σ H v) (hr : ∀ H1, Ex H H1 → R v H1) : EvR te σ H R := fun H1 e Q q => h H1 e Q fun H2 e2 => q v H2 e2 (hr H2 (e.trans e2))
theorem s_unp2 {i j : Nat} {R : V → Hp → Prop} {x y : V} (h : EvR te σ H R) (hr : ∀ v H1, Ex H H1 → R v H1 → ∃ t, v = .ref t ∧ SqT K H1 t [x, y]) (k : ∀ H1, Ex H H1 → D.nx ((σ.set i (some x)).set j (some y)) H1) :
    tAsg te (gTup K 2 (gCons (gName i) (gCons (gName j) gNil))) D σ H := h H (Ex.refl H) _ fun v H1 e r => by
  obtain ⟨t, rfl, ht⟩ := hr v H1 e r
  exact ⟨t, _, rfl, ht, rfl, _, _, rfl, _, _, rfl, rfl, k H1 e⟩
theorem q_unp2 {i j : Nat} {R : V → Hp → Prop} {x y : V} (h : EvR te σ H R) (hr : ∀ v H1, Ex H H1 → R v H1 → ∃ t, v = .ref t ∧ SqT K H1 t [x, y]) (k : ∀ H1, Ex H H1 → tz D ((σ.set i (some x)).set j (some y)) H1) :
    tSeq (tAsg te (gTup K 2 (gCons (gName i) (gCons (gName j) gNil)))) tz D σ H := s_unp2 (D := { D with nx := tz D }) h hr k
end
end Qt
/-! Steps by what R tells; pairs of a value and a new list. -/
namespace Qt
open PySem PySem.Spec PyProof.Rows L2 Evl
section
variable {K : PySem.W.Frag} {σ : L2.St} {H : Hp} {ta tb te : TE} {D : Ends} {tz : TS}
end
/-! ### texts within a list; a list's truth -/
theorem inV_strs {z : Str} {l : List Str} : inV (.str z) (l.map V.str) = decide (z ∈ l) := by
  unfold inV
  rw [List.any_map, Bool.eq_iff_iff, List.any_eq_true, decide_eq_true_iff]
  constructor
  · rintro ⟨x, hx, e⟩
    have e' : (x == z) = true := e
    rw [← beq_iff_eq.mp e']
    exact hx
  · intro h
    exact ⟨z, h, by show (z == z) = true; exact beq_self_eq_true z⟩
section
variable {K : PySem.W.Frag} {σ : L2.St} {H : Hp} {ta tb te : TE} {D : Ends} {tz : TS}
theorem cut_but {α : Type} {xs : List V} : cutV xs none (some (-1)) = xs.dropLast := by
  unfold cutV
  rw [HT.sIx_none, List.drop_zero, Nat.sub_zero, List.dropLast_eq_take]
  congr 1
  show (if ((-1 : Int)) < 0 then ((-1 : Int) + (xs.length : Int)).toNat else min (-1 : Int).toNat xs.length) = _
  rw [if_pos (by omega)]
  omega
end
end Qt
/-! Lists of tuples of flat values. -/
namespace Qt
open PySem PySem.Spec PyProof.Rows L2 Evl
/-- at p stands a list of tuples: their contents are xss -/
def LTup (H : Hp) (p : Addr) (xss : List (List V)) : Prop := ∃ ts : List Addr, H p = some (.lst (ts.map V.ref)) ∧ Paired (fun t x => H t = some (.tup x)) ts xss
theorem pr_imp {α β : Type} {R S : α → β → Prop} : ∀ {ts : List α} {ws : List β}, Paired R ts ws → (∀ t w, t ∈ ts → R t w → S t w) → Paired S ts ws
  | _, _, .nil, _ => .nil
  | _, _, .cons h r, k => .cons (k _ _ List.mem_cons_self h) (pr_imp r fun t w ht => k t w (List.mem_cons_of_mem _ ht))
theorem pr_put {α β : Type} {R : α → β → Prop} : ∀ {ts : List α} {ws : List β} {t : α} {w : β}, Paired R ts ws → R t w → Paired R (ts ++ [t]) (ws ++ [w])
  | _, _, _, _, .nil, h => .cons h .nil
  | _, _, _, _, .cons h r, h2 => .cons h (pr_put r h2)
theorem pr_len {α β : Type} {R : α → β → Prop} : ∀ {ts : List α} {ws : List β}, Paired R ts ws → ts.length = ws.length
  | _, _, .nil => rfl
  | _, _, .cons _ r => congrArg (· + 1) (pr_len r)
theorem LTup.ex {H H1 : Hp} {p : Addr} {xss : List (List V)} (h : LTup H p xss) (e : Ex H H1) : LTup H1 p xss := by
  obtain ⟨ts, a, b⟩ := h
  exact ⟨ts, e _ _ a, pr_imp b fun t x _ q => e _ _ q⟩
theorem LTup.nil {H : Hp} {p : Addr} (h : H p = some (.lst [])) : LTup H p [] := ⟨[], h, .nil⟩
/-- one more tuple behind: t is new and the list at p was as told in the heap before -/
theorem LTup.snoc {H H1 : Hp} {p t : Addr} {xss : List (List V)} {x : List V} {ts : List Addr} (hp : H p = some (.lst (ts.map V.ref))) (hq : Paired (fun t x => H t = some (.tup x)) ts xss) (e : Ex H H1) (ht : H1 t = some (.tup x)) :
    LTup (upd H1 p (.lst (ts.map V.ref ++ [.ref t]))) p (xss ++ [x]) := by
  have hp1 := e _ _ hp
  refine ⟨ts ++ [t], by rw [upd_same, List.map_append]; rfl, pr_put (pr_imp hq fun u x _ q => ?_) ?_⟩
  · have z := e _ _ q
    rw [upd_ne (fun y => by rw [y, hp1] at z; cases z)]
    exact z
  · rw [upd_ne (fun y => by rw [y, hp1] at ht; cases ht)]
    exact ht
def datV : V → PyData
  | .int i => .int i
  | .str z => .str z
  | .bl b => .bool b
  | _ => .none
def okV : V → Prop
  | .int _ => True
  | .str z => lowS z
  | .bl _ => True
  | .non => True
  | _ => False
theorem dp_flat {K : PySem.W.Frag} {H : Hp} {v : V} (h : okV v) : Dp K H v (datV v) := by
  cases v with
  | int i => exact .int i
  | str z => exact .str z
  | bl b => exact .bl b
  | non => exact .non
  | _ => exact h.elim
theorem dp_flats {K : PySem.W.Frag} {H : Hp} : ∀ {xs : List V}, (∀ v ∈ xs, okV v) → DpAll K H xs (xs.map datV)
  | [], _ => .nil
  | v :: r, h => .cons (dp_flat (h v List.mem_cons_self)) (dp_flats fun u hu => h u (List.mem_cons_of_mem _ hu))
theorem dp_ltup0 {K : PySem.W.Frag} {H : Hp} : ∀ {ts : List Addr} {xss : List (List V)}, Paired (fun t x => H t = some (.tup x)) ts xss → (∀ x ∈ xss, ∀ v ∈ x, okV v) → DpAll K H (ts.map V.ref) (xss.map fun x => .tuple (x.map datV))
  | _, _, .nil, _ => .nil
  | _, _, .cons h r, k => .cons (.tup (st_of h) (dp_flats (k _ List.mem_cons_self))) (dp_ltup0 r fun x hx => k x (List.mem_cons_of_mem _ hx))
def dTups (xss : List (List V)) : PyData := .list (xss.map fun x => .tuple (x.map datV))
theorem dp_ltup {K : PySem.W.Frag} {H : Hp} {p : Addr} {xss : List (List V)} (h : LTup H p xss) (k : ∀ x ∈ xss, ∀ v ∈ x, okV v) : Dp K H (.ref p) (dTups xss) := by
  obtain ⟨ts, a, b⟩ := h
  exact .lst (sq_of a) (dp_ltup0 b k)
def EvG (te : TE) (σ : L2.St) (H : Hp) (xss : List (List V)) : Prop := ∀ H1, Ex H H1 → ∀ Q : VK, (∀ p H2, H1 p = none → Ex H1 H2 → LTup H2 p xss → Q (.ref p) H2) → te σ H1 Q
section
variable {K : PySem.W.Frag} {σ : L2.St} {H : Hp} {te1 te2 til : TE} {tt : TT} {ta : TA} {D : Ends} {tz : TS}
/-- what two fors with a test give, up to the outer turn i -/
def givenF (n2 : Nat) (f : Nat → Nat → Bool) (v : Nat → Nat → List V) (i : Nat) : List (List V) := (List.range i).flatMap fun a => ((List.range n2).filter (f a)).map (v a)
theorem givenF_succ (n2 : Nat) (f : Nat → Nat → Bool) (v : Nat → Nat → List V) (i : Nat) : givenF n2 f v (i + 1) = givenF n2 f v i ++ ((List.range n2).filter (f i)).map (v i) := by
  unfold givenF
  rw [List.range_succ, List.flatMap_append, List.flatMap_singleton]
theorem givenF_len (n2 : Nat) (f : Nat → Nat → Bool) (v : Nat → Nat → List V) (i : Nat) : (givenF n2 f v i).length ≤ i * n2 := by
  induction i with
  | zero => simp [givenF]
  | succ i ih =>
    have z := List.length_filter_le (f i) (List.range n2)
    rw [List.length_range] at z
    rw [givenF_succ, List.length_append, List.length_map, Nat.succ_mul]
    omega
/-- [(a, b) for i in range(n) for s in a text if ..] -/
theorem eg_lc2RS {n : Int} {z : Str} {j l : Nat} {vs vs1 : List Nat} (f : Nat → Nat → Bool) (v1 v2 : Nat → Nat → V) (h : EvA ta σ H [.int n]) (hn : 0 ≤ n ∧ n ≤ 1000) (hy : z.length ≤ 10)
    (hw : ∀ x, wipe ((wipe σ vs).set j (some x)) vs = wipe σ vs)
    (hw1 : ∀ x s, wipe ((wipe ((wipe σ vs).set j (some x)) vs1).set l (some s)) vs1 = wipe ((wipe σ vs).set j (some x)) vs1)
    (hi : ∀ (i : Nat) H1, Ex H H1 → (i : Int) < n → Ev til ((wipe σ vs).set j (some (.int (i : Int)))) H1 (.str z))
    (ht : ∀ (i m : Nat) H1, Ex H H1 → (i : Int) < n → m < z.length → EvT tt ((wipe ((wipe σ vs).set j (some (.int (i : Int)))) vs1).set l (some (sg z m))) H1 (f i m))
    (he1 : ∀ (i m : Nat) H1, Ex H H1 → (i : Int) < n → m < z.length → Ev te1 ((wipe ((wipe σ vs).set j (some (.int (i : Int)))) vs1).set l (some (sg z m))) H1 (v1 i m))
    (he2 : ∀ (i m : Nat) H1, Ex H H1 → (i : Int) < n → m < z.length → Ev te2 ((wipe ((wipe σ vs).set j (some (.int (i : Int)))) vs1).set l (some (sg z m))) H1 (v2 i m)) :
    EvG (tLc2 (iRng1 ta) (gName j) tYes (iStr til) (gName l) tt (tTup (tCons te1 (tCons te2 tNil))) vs vs1) σ H (givenF z.length f (fun i m => [v1 i m, v2 i m]) n.toNat) := fun H0 e Q q => h H0 e _ fun H1 e1 => ⟨n, rfl, by omega, by omega, fun Dl hD => by
  refine lc2_out (walk_range (lo := 0) (n := n.toNat)) (fun i H' => Ex H1 H' ∧ LTup H' Dl (givenF z.length f (fun i m => [v1 i m, v2 i m]) i)) ⟨Ex.new hD, LTup.nil upd_same⟩ (fun _ _ _ p => trivial) (fun i y H2 H' hlt p y' => ?_) (fun H' p => q Dl H' (fresh_back e1 hD) (e1.trans p.1) p.2)
  obtain ⟨rfl, rfl⟩ := y'
  obtain ⟨p1, p2⟩ := p
  dsimp only
  rw [Int.zero_add]
  have hi' : (i : Int) < n := by omega
  refine ⟨hw _, ?_⟩
  refine yes_if ?_
  refine hi i H1 (e.trans e1) hi' _ p1 _ fun H3 e3 => ⟨z, rfl, ?_⟩
  refine lc2_in (walk_str (z := z)) (fun m H' => Ex H1 H' ∧ LTup H' Dl (givenF z.length f (fun i m => [v1 i m, v2 i m]) i ++ ((List.range m).filter (f i)).map fun m => [v1 i m, v2 i m])) ⟨p1.trans e3, by rw [List.range_zero, List.filter_nil, List.map_nil, List.append_nil]; exact p2.ex e3⟩ (fun _ _ _ p => trivial) (fun m s H4 H5 hmlt p y2 => ?_) (fun H' p => ?_)
  · obtain ⟨rfl, c, hc, rfl⟩ := y2
    obtain ⟨g1, ts, g2, g3⟩ := p
    have hml : m < z.length := hmlt
    refine ⟨hw1 _ _, ?_⟩
    rw [sg_of hc]
    refine ht i m H1 (e.trans e1) hi' hml _ g1 _ fun H6 e6 => ?_
    cases hf : f i m with
    | true =>
      refine iteT ?_
      refine he1 i m H1 (e.trans e1) hi' hml _ (g1.trans e6) _ fun H7 e7 => he2 i m H1 (e.trans e1) hi' hml _ ((g1.trans e6).trans e7) _ fun H8 e8 => ⟨by show 2 ≤ sizeLine; decide, fun t nt => ?_⟩
      have e68 := (e6.trans e7).trans e8
      refine ⟨_, (Ex.new nt) _ _ (e68 _ _ g2), ?_, Ex.mut ((g1.trans e68).trans (Ex.new nt)) hD, ?_⟩
      · have b0 := pr_len g3
        have b1 := givenF_len z.length f (fun i m => [v1 i m, v2 i m]) i
        have b2 := List.length_filter_le (f i) (List.range m)
        rw [List.length_range] at b2
        rw [List.length_append, List.length_map] at b0
        have b3 : i * z.length ≤ 1000 * 10 := Nat.mul_le_mul (by omega) hy
        rw [List.length_map, sizeLine_eq]
        omega
      · rw [List.range_succ, List.filter_append, List.filter_cons_of_pos hf, List.map_append, ← List.append_assoc]
        exact LTup.snoc g2 g3 (e68.trans (Ex.new nt)) upd_same
    | false =>
      refine iteF ⟨g1.trans e6, ?_⟩
      rw [List.range_succ, List.filter_append, List.filter_cons_of_neg (by rw [hf]; exact Bool.false_ne_true), List.filter_nil, List.append_nil]
      exact LTup.ex ⟨ts, g2, g3⟩ e6
  · refine ⟨p.1, ?_⟩
    rw [givenF_succ]
    exact p.2⟩
theorem s_retG {te : TE} {xss : List (List V)} (h : EvG te σ H xss) (k : ∀ p H1, H p = none → Ex H H1 → LTup H1 p xss → D.rt (.ref p) H1) : tRet te D σ H := h H (Ex.refl H) _ fun p H1 np e hp => k p H1 np e hp
/-- the promise of a list of tuples -/
def RetT (xss : List (List V)) (H : Hp) (Q : VK) : Prop := ∀ p H2, H p = none → Ex H H2 → LTup H2 p xss → Q (.ref p) H2
end
end Qt
/-! min, <, sorted of data of any depth. -/
namespace Qt
open PySem PySem.Spec PyProof.Rows L2 Evl PySem.W
theorem depthAll_mem {n : Nat} : ∀ {ds : List PyData}, (∀ d ∈ ds, d.depth ≤ n) → PyData.depthAll ds ≤ n
  | [], _ => by simp [PyData.depthAll]
  | d :: r, h => by
    have h1 := h d List.mem_cons_self
    have h2 := depthAll_mem fun x hx => h x (List.mem_cons_of_mem _ hx)
    simp only [PyData.depthAll]
    omega
theorem canLay_mem {d : PyData} : ∀ {ds : List PyData}, PyData.canLayAll0 ds = true → d ∈ ds → d.canLay0 = true
  | [], _, h => nomatch h
  | e :: r, hl, h => by
    simp only [PyData.canLayAll0, Bool.and_eq_true] at hl
    rcases List.mem_cons.mp h with rfl | h
    · exact hl.1
    · exact canLay_mem hl.2 h
theorem minD_mem (d : PyData) : ∀ ds : List PyData, minD d ds ∈ d :: ds := fun ds => by
  unfold minD
  induction ds generalizing d with
  | nil => exact List.mem_cons_self
  | cons e r ih =>
    rw [List.foldl_cons]
    have z := ih (if dataLt e d = true then e else d)
    rcases List.mem_cons.mp z with z | z
    · rw [z]
      split
      · exact List.mem_cons_of_mem _ List.mem_cons_self
      · exact List.mem_cons_self
    · exact List.mem_cons_of_mem _ (List.mem_cons_of_mem _ z)
section
variable {X : Cx}
/-- min(l) of alike data: the item that stands there -/
def rMinG (K : PySem.W.Frag) : List V → Hp → VK → Prop := fun xs H Q => ∃ (a : Addr) (ys : List V) (d : PyData) (ds : List PyData), xs = [.ref a] ∧ SqL K H a ys ∧ DpAll K H ys (d :: ds) ∧ AlikeAll (d :: ds) ∧ (∀ z ∈ d :: ds, z.depth ≤ 60) ∧ PyData.canLayAll0 (d :: ds) = true ∧
  ∀ (i : Nat) (y : V), ys[i]? = some y → (d :: ds)[i]? = some (minD d ds) → Q y H
theorem cr_minG (hc : X.calm = true) (hu : X.A.units + 64 < cLine) : CallR X (.builtin "min") (rMinG X.K) := by
  intro pins s σ H xs us Q I r h
  obtain ⟨a, ys, d, ds, rfl, hs, hd, hal, hdp, hlay, q⟩ := h
  obtain ⟨u, rfl, ru⟩ := vals1 r
  obtain rfl : u = Value.ref a := ru
  obtain ⟨its, rv, hl, hz⟩ := I.list hs
  obtain ⟨as, hr⟩ := Dp.readsAll I (d :: ds) ys its hd rv
  have hdd := depthAll_mem hdp
  refine min_list_data (I.ok.hd hc) hl.isList hr hal (by omega) fun i v h' tk bs hi hm k => ?_
  have hi' : its[i]? = some v := by simpa using hi
  have hil : i < its.length := (List.getElem?_eq_some_iff.mp hi').1
  have hyl : i < ys.length := by rw [rv.length]; exact hil
  have hdl : i < (d :: ds).length := by
    have := SeqAt.ReadsAll.length (d :: ds) its as hr
    omega
  obtain ⟨u, hu1, hu2⟩ := rv.get (List.getElem?_eq_getElem hyl)
  obtain rfl : v = u := Option.some.inj (hi'.symm.trans hu1)
  refine ⟨ys[i], H, I.kept k, hu2, q i _ (List.getElem?_eq_getElem hyl) ?_⟩
  obtain ⟨cs, r1, _, mem, _⟩ := readsAll_atA (vs := its.toArray) hr i v (by simpa using hi)
  have e1 := SeqAt.readOf_eq (canLay_mem hlay mem) (reads_keeps k r1)
  have e2 := SeqAt.readOf_eq (canLay_mem hlay (minD_mem d ds)) hm
  rw [List.getElem?_eq_getElem hdl]
  rw [e2, List.getD_eq_getElem?_getD, List.getElem?_eq_getElem hdl] at e1
  exact congrArg some e1.symm
/-- x < y of alike data -/
def rLtG (K : PySem.W.Frag) : R2 := fun x y H Q => ∃ d e, Dp K H x d ∧ Dp K H y e ∧ alike d e = true ∧ d ≠ .none ∧ d.depth ≤ 60 ∧ Q (.bl (dataLt d e)) H
theorem each_rel {β : Type} {f : β → V} : ∀ {bs : List β} {us : List Value}, Vals (bs.map f) us → EachIs (fun v b => RelV (f b) v) us bs
  | [], _, h => by cases h; exact .nil
  | b :: r, _, h => by
    cases h with
    | cons h1 h2 => exact .cons h1 (each_rel h2)
theorem each_vals {β : Type} {f : β → V} : ∀ {bs : List β} {us : List Value}, EachIs (fun v b => RelV (f b) v) us bs → Vals (bs.map f) us
  | _, _, .nil => .nil
  | _, _, .cons h1 h2 => .cons h1 (each_vals h2)
/-- sorted(l) of alike data: the items, each beside its data -/
def rSortedG (K : PySem.W.Frag) : List V → Hp → VK → Prop := fun xs H Q => ∃ (a : Addr) (zs : List (PyData × V)), xs = [.ref a] ∧ SqL K H a (zs.map Prod.snd) ∧ DpAll K H (zs.map Prod.snd) (zs.map Prod.fst) ∧ AllAlike (zs.map Prod.fst) ∧ Sortable (zs.map Prod.fst) ∧ (∀ z ∈ zs, z.1.depth ≤ 60) ∧
  ∀ p, H p = none → Q (.ref p) (upd H p (.lst ((zs.mergeSort (dataLe false Prod.fst)).map Prod.snd)))
theorem cr_sortedG (hu : X.A.units + 64 < cLine) : CallR X (.builtin "sorted") (rSortedG X.K) := by
  intro pins s σ H xs us Q I r h
  obtain ⟨a, zs, rfl, hs, hd, hal, hso, hdp, q⟩ := h
  obtain ⟨u, rfl, ru⟩ := vals1 r
  obtain rfl : u = Value.ref a := ru
  obtain ⟨its, rv, hl, hz⟩ := I.list hs
  obtain ⟨as, hr⟩ := Dp.readsAll I (zs.map Prod.fst) _ its hd rv
  refine sorted_data (vs := its) (bs := zs) (enc := Prod.fst) (R := fun v z => RelV z.2 v) hl.isList (each_rel rv) (readsAll_each _ hr) hal hso (by rw [← List.length_map (f := Prod.snd)]; exact hz) (fun b hb => by have := hdp b hb; omega) fun out hlen he => ?_
  have k : ∀ b o, s.heap.get? b = some o → (sortedAll s.heap its out.toArray).get? b = some o := fun b o e => sortedAll_old e
  obtain ⟨n, hn⟩ := sortedAll_at s.heap its out.toArray
  have hv : Vals ((zs.mergeSort (dataLe false Prod.fst)).map Prod.snd) out := each_vals he
  refine ⟨.ref (s.heap.objs.size + 1), upd H (s.heap.objs.size + 1) (.lst ((zs.mergeSort (dataLe false Prod.fst)).map Prod.snd)), I.laid (a := s.heap.objs.size + 1) (o := .lst ((zs.mergeSort (dataLe false Prod.fst)).map Prod.snd)) (t' := s.toks) k (Nat.le_succ _) ⟨?_, out, n, hv, hn⟩, rfl, q _ (I.hok.fresh (Nat.le_succ _))⟩
  rw [List.length_map, List.length_mergeSort, ← List.length_map (f := Prod.snd)]
  exact hz
end
end Qt
/-! Lists of pairs, made by one for; min of them; comparing answers that both are told. -/
namespace Qt
open PySem PySem.Spec PyProof.Rows L2 Evl PySem.W
theorem pr_at {α β : Type} {R : α → β → Prop} : ∀ {ts : List α} {ws : List β} {i : Nat} {t : α} {w : β}, Paired R ts ws → ts[i]? = some t → ws[i]? = some w → R t w
  | _, _, _, _, _, .nil, h, _ => by simp at h
  | _, _, 0, _, _, .cons h _, a, b => by
    simp at a b
    rw [← a, ← b]
    exact h
  | _, _, i + 1, _, _, .cons _ r, a, b => pr_at r (by simpa using a) (by simpa using b)
section
variable {K : PySem.W.Frag} {σ : L2.St} {H : Hp} {ta tb tl te te1 te2 : TE} {t : TT} {D : Ends} {tz : TS}
theorem eg_is {xss yss : List (List V)} (h : EvG te σ H xss) (e : xss = yss) : EvG te σ H yss := e ▸ h
theorem q_asgG {i : Nat} {xss : List (List V)} (h : EvG te σ H xss) (k : ∀ p H1, H p = none → Ex H H1 → LTup H1 p xss → tz D (σ.set i (some (.ref p))) H1) : tSeq (tAsg te (gName i)) tz D σ H :=
  h H (Ex.refl H) _ fun p H1 np e hp => k p H1 np e hp
end
end Qt
/-! Counting down; min of a new list of texts. -/
namespace Qt
open PySem PySem.Spec PyProof.Rows L2 Evl PySem.W
section
variable {K : PySem.W.Frag} {σ : L2.St} {H : Hp} {te : TE} {ta : TA} {tu tz : TS} {D : Ends}
/-- for j in range(hi, lo, -1) -/
theorem s_forDn {j : Nat} {hi lo : Int} (h : EvA ta σ H [.int hi, .int lo, .int (-1)]) (hn : -100000 ≤ lo ∧ lo ≤ 100000 ∧ -100000 ≤ hi ∧ hi ≤ 100000) (Pv : Nat → L2.St → Hp → Prop) (h0 : ∀ H1, Ex H H1 → Pv 0 σ H1)
    (hs : ∀ (i : Nat) σ' H', lo < hi - (i : Int) → Pv i σ' H' → tu { D with nx := Pv (i + 1), ct := Pv (i + 1), bk := D.nx } (σ'.set j (some (.int (hi - (i : Int))))) H') (hd : ∀ σ' H', Pv (hi - lo).toNat σ' H' → D.nx σ' H') : tFor (iRng3 ta) (gName j) tu D σ H :=
  h H (Ex.refl H) _ fun H1 e => ⟨hi, lo, -1, (hi - lo).toNat, rfl, RgC.neg (by omega) (by omega) (by omega) (by omega), for_it (walk_rangeC (lo := hi) (c := -1) (n := (hi - lo).toNat)) Pv (h0 H1 e) (fun _ _ _ _ _ => trivial) (fun i x σ' H2 H3 hi' p y => by
    obtain ⟨rfl, rfl⟩ := y
    have := hs i σ' _ (by omega) p
    dsimp only
    rw [show hi + (i : Int) * (-1) = hi - (i : Int) by omega]
    exact this) hd⟩
theorem q_forDn {j : Nat} {hi lo : Int} (h : EvA ta σ H [.int hi, .int lo, .int (-1)]) (hn : -100000 ≤ lo ∧ lo ≤ 100000 ∧ -100000 ≤ hi ∧ hi ≤ 100000) (Pv : Nat → L2.St → Hp → Prop) (h0 : ∀ H1, Ex H H1 → Pv 0 σ H1)
    (hs : ∀ (i : Nat) σ' H', lo < hi - (i : Int) → Pv i σ' H' → tu { D with nx := Pv (i + 1), ct := Pv (i + 1), bk := tz D } (σ'.set j (some (.int (hi - (i : Int))))) H') (hd : ∀ σ' H', Pv (hi - lo).toNat σ' H' → tz D σ' H') : tSeq (tFor (iRng3 ta) (gName j) tu) tz D σ H :=
  s_forDn (D := { D with nx := tz D }) h hn Pv h0 hs hd
end
/-- the least of some texts, as lists of numbers -/
def minL : List (List Nat) → List Nat
  | [] => []
  | x :: xs => xs.foldl (fun a y => if y < a then y else a) x
theorem minD_txt : ∀ (xs : List (List Nat)) (x : List Nat), minD (.str (txt x)) (xs.map fun u => PyData.str (txt u)) = .str (txt (minL (x :: xs)))
  | [], x => rfl
  | y :: xs, x => by
    show minD (if dataLt (.str (txt y)) (.str (txt x)) = true then .str (txt y) else .str (txt x)) (xs.map fun u => PyData.str (txt u)) = .str (txt (minL ((if y < x then y else x) :: xs)))
    rw [dataLt_str, txt_l, txt_l]
    by_cases h : y < x
    · rw [decide_eq_true h, if_pos rfl, if_pos h]
      exact minD_txt xs y
    · rw [decide_eq_false h, if_neg Bool.false_ne_true, if_neg h]
      exact minD_txt xs x
theorem ev_minS {K : PySem.W.Frag} {σ : L2.St} {H : Hp} {te : TE} {l : List (List Nat)} (hne : l ≠ []) (low : ∀ u ∈ l, lowS (txt u)) (h : EvL te σ H (l.map fun u => V.str (txt u))) : Ev (tCB (rMinG K) (tCons te tNil)) σ H (.str (txt (minL l))) := fun H1 e Q q =>
  h H1 e _ fun p H2 np e2 hp => by
  cases l with
  | nil => exact absurd rfl hne
  | cons x xs =>
    have lay : ∀ u ∈ x :: xs, PyData.canLay0 (.str (txt u)) = true := fun u hu => strOk_low (low u hu)
    refine ⟨p, (x :: xs).map fun u => V.str (txt u), .str (txt x), xs.map fun u => PyData.str (txt u), rfl, sq_of hp, ?_, ⟨fun a ha b hb => ?_, fun a ha => ?_⟩, fun a ha => ?_, ?_, fun i y hy hd => ?_⟩
    · have z : ∀ l : List (List Nat), DpAll K H2 (l.map fun u => V.str (txt u)) (l.map fun u => PyData.str (txt u)) := fun l => by
        induction l with
        | nil => exact .nil
        | cons a r ih => exact .cons (.str _) ih
      exact z (x :: xs)
    · obtain ⟨u, _, rfl⟩ := List.mem_map.mp (show a ∈ (x :: xs).map fun u => PyData.str (txt u) from ha)
      obtain ⟨v, _, rfl⟩ := List.mem_map.mp (show b ∈ (x :: xs).map fun u => PyData.str (txt u) from hb)
      simp only [alike]
    · obtain ⟨u, _, rfl⟩ := List.mem_map.mp (show a ∈ (x :: xs).map fun u => PyData.str (txt u) from ha)
      exact fun z => by cases z
    · obtain ⟨u, _, rfl⟩ := List.mem_map.mp (show a ∈ (x :: xs).map fun u => PyData.str (txt u) from ha)
      exact Nat.zero_le _
    · refine lay_all (ds := (x :: xs).map fun u => PyData.str (txt u)) fun d hd => ?_
      obtain ⟨u, hu, rfl⟩ := List.mem_map.mp hd
      exact lay u hu
    · rw [minD_txt] at hd
      have hd' : ((x :: xs).map fun u => PyData.str (txt u))[i]? = some (PyData.str (txt (minL (x :: xs)))) := hd
      rw [List.getElem?_map] at hd' hy
      obtain ⟨u, hu, e3⟩ := Option.map_eq_some_iff.mp hd'
      rw [hu] at hy
      injection e3 with e3
      have e4 : V.str (txt u) = y := Option.some.inj hy
      rw [← e4, e3]
      exact q H2 e2
end Qt
/-! text[::-1]; text.find(sign); text.index(sign). -/
namespace Qt
open PySem PySem.Spec PyProof.Rows L2 Evl
section
variable {X : Cx}
def revT (z : Str) : Str := ⟨z.cps.toList.reverse.toArray⟩
def tRevS (te : TE) : TE := fun σ H Q => te σ H fun x H1 => ∃ z : Str, x = .str z ∧ z.length ≤ sizeLine ∧ Q (.str (revT z)) H1
end
end Qt
/-! sorted(set(xs)) of a list of texts. -/
namespace Qt
open PySem PySem.Spec PyProof.Rows L2 Evl PySem.W
def txtOf (e : Int × Value) : Str := match e.2 with
  | .str k _ => k
  | _ => PySem.Str.empty
def OkT (P : Program) (w : World) (e : Int × Value) : Prop := ∃ k t, e.2 = Value.str k t ∧ e.1 = (PySem.strKind P w).hash k
/-- the set of texts at a: M its members; its table can be walked -/
def SetT (P : Program) (w : World) (h : Heap) (a : Addr) (M : Str → Bool) : Prop :=
  ∃ ob xs ep tb, h.get? a = some ob ∧ ob.ExactSet ∧ ob.data = .set xs ep tb ∧ (∀ x ∈ xs.toList, OkT P w x) ∧ (xs.toList.map txtOf).Nodup ∧ (∀ k, M k = true ↔ k ∈ xs.toList.map txtOf) ∧
    xs.size < scanBound ∧ tb.fits xs.size = true ∧ Ris tb.place.toList ∧ (w.params.followText "set-order" = true ∨ tb.led = true)
section
variable {P : Program} {w : World} {A : Around} {E : Value → Shared → Prop} {s : Shared} {a : Addr} {M : Str → Bool}
theorem okT_elems {l : List (Int × Value)} (g : ∀ x ∈ l, OkT P w x) : ElemsOf (PySem.strKind P w) l := fun x hx => by
  obtain ⟨k, t, e1, e2⟩ := g x hx
  exact ⟨⟨k, by rw [e1]; exact strKind_is _ _ _ _, e2⟩, by rw [e1] <;> rfl⟩
theorem okT_is {x : Int × Value} (g : OkT P w x) (k : Str) : (PySem.strKind P w).is k x.2 = true ↔ txtOf x = k := by
  obtain ⟨k0, t, e1, _⟩ := g
  unfold txtOf
  rw [e1]
  constructor
  · intro h
    obtain ⟨u, hu⟩ := Value.isStrOf_shape (show Value.isStrOf k (.str k0 t) = true from h)
    injection hu
  · intro h
    show Value.isStrOf k (.str k0 t) = true
    rw [← h]
    exact strKind_is P w k0 t
theorem okT_mem {l : List (Int × Value)} (g : ∀ x ∈ l, OkT P w x) (k : Str) : k ∈ l.map txtOf ↔ ∃ x ∈ l, (PySem.strKind P w).is k x.2 = true :=
  ⟨fun h => by
    obtain ⟨x, hx, e⟩ := List.mem_map.mp h
    exact ⟨x, hx, (okT_is (g x hx) k).mpr e⟩, fun ⟨x, hx, e⟩ => List.mem_map.mpr ⟨x, hx, (okT_is (g x hx) k).mp e⟩⟩
/-- the new table, stored; made wider where it is too full -/
theorem setT_stored {gv : Bool → Sem Unit} (hgv : ∀ (b : Bool) (s₁ : Shared) (Q' : Unit → Shared → Prop), Q' () s₁ → wpAny (model P w) A (gv b) Q' E s₁)
    {ob : Obj} {xs xs1 : Array (Int × Value)} {ep : Nat} {tb tb2 : SetTable} {M' : Str → Bool} (h0 : s.heap.get? a = some ob) (hex : ob.ExactSet) (hd : ob.data = .set xs ep tb)
    (g1 : ∀ x ∈ xs1.toList, OkT P w x) (nd1 : (xs1.toList.map txtOf).Nodup) (m1 : ∀ k, M' k = true ↔ k ∈ xs1.toList.map txtOf) (hb1 : xs1.size < scanBound) (hf2 : tb2.fits xs1.size = true) (hr : Ris tb2.place.toList)
    (hl : w.params.followText "set-order" = true ∨ tb2.led = true) {dm : Bool} {R : Option Bool → Shared → Prop} (hR : ∀ h', Heap.SameBut a s.heap h' → SetT P w h' a M' → R (some true) { s with heap := h' }) :
    wpAny (model P w) A (do
        storeSet a xs1 tb2
        if (!dm && tb2.tooFull) = true then do
            gv (relayAll tb2 xs1 (SetTable.grown xs1.size)).2.2
            storeSet a (relayAll tb2 xs1 (SetTable.grown xs1.size)).1 (relayAll tb2 xs1 (SetTable.grown xs1.size)).2.1
            pure (some true)
          else pure (some true)) R E s := by
  refine wpAny_bind (wpAny_storeSet_of h0 hd ?_ (fits_of_scanBound hb1))
  have k1 := store_at (es' := xs1) (t' := tb2) h0 hd
  have same := Heap.SameBut.update s.heap a (Obj.putSet xs1 tb2)
  split
  · have p1 := relayAll_perm tb2 xs1 (SetTable.grown xs1.size)
    have p2 := relayAll_fits tb2 xs1 (SetTable.grown xs1.size)
    have p3 := relayAll_ris tb2 xs1 (SetTable.grown xs1.size)
    have p4 := relayAll_led tb2 xs1 (SetTable.grown xs1.size)
    generalize relayAll tb2 xs1 (SetTable.grown xs1.size) = Y at p1 p2 p3 p4 ⊢
    obtain ⟨xs2, tb3, ga⟩ := Y
    dsimp only at p1 p2 p3 p4 ⊢
    have sz2 : xs2.size = xs1.size := by rw [← Array.length_toList, p1.length_eq, Array.length_toList]
    refine wpAny_bind (hgv _ _ _ ?_)
    refine wpAny_bind (wpAny_storeSet_of k1 rfl ?_ (fits_of_scanBound (by rw [sz2]; exact hb1)))
    have k2 := store_at (es' := xs2) (t' := tb3) k1 rfl
    refine wpAny_pure (hR _ (same.trans (Heap.SameBut.update _ a _)) ?_)
    refine ⟨_, xs2, _, tb3, k2, hex, rfl, fun x hx => g1 x (p1.mem_iff.mp hx), (p1.map txtOf).nodup_iff.mpr nd1, fun k => (m1 k).trans (p1.map txtOf).mem_iff.symm, by rw [sz2]; exact hb1, by rw [sz2]; rw [sz2] at p2; exact p2, p3, hl.imp id fun z => ?_⟩
    rw [p4]
    exact z
  · exact wpAny_pure (hR _ same ⟨_, xs1, _, tb2, k1, hex, rfl, g1, nd1, m1, hb1, hf2, hr, hl⟩)
theorem setT_add {z : Str} {t : Tok} {Q : Bool → Shared → Prop} (R : SetT P w s.heap a M) (room : ∀ ob xs ep tb, s.heap.get? a = some ob → ob.data = .set xs ep tb → xs.size + 1 < scanBound)
    (hQ : ∀ h' b, Heap.SameBut a s.heap h' → SetT P w h' a (fun j => M j || decide (j = z)) → Q b { s with heap := h' }) : wpAny (model P w) A (setAddHashed a (.str z t) ((PySem.strKind P w).hash z)) Q E s := by
  obtain ⟨ob, xs, ep, tb, h0, hex, hd, g, nd, hm, hb, hf, hr, hl⟩ := R
  have room1 := room ob xs ep tb h0 hd
  have isz : (PySem.strKind P w).is z (.str z t) = true := strKind_is P w z t
  have scz : (Value.str z t).scannable = true := rfl
  have els := okT_elems g
  unfold setAddHashed setAddHashedIn
  refine wpAny_holding (wpAny_bind (wpAny_setState_of h0 hd hf ?_))
  dsimp only
  rw [byScan_of scz hb els]
  simp only [↓reduceIte]
  unfold setAddByScan
  refine wpAny_bind ?_
  refine wpAny_bind (wpAny_rule ?_)
  refine wpAny_bind (wpAny_setScan_of isz h0 hd hf els ?_)
  cases sc : List.findIdx? (fun x => (PySem.strKind P w).is z x.2) xs.toList with
  | some j =>
    dsimp only
    obtain ⟨hj, pj, _⟩ := List.findIdx?_eq_some_iff_getElem.mp sc
    have inM : M z = true := (hm z).2 ((okT_mem g z).2 ⟨xs.toList[j], List.getElem_mem hj, pj⟩)
    refine wpAny_pure (wpAny_pure (hQ s.heap _ (Heap.SameBut.refl a s.heap) ⟨ob, xs, ep, tb, h0, hex, hd, g, nd, fun i => ?_, hb, hf, hr, hl⟩))
    rw [Bool.or_eq_true, decide_eq_true_eq, ← hm i]
    exact ⟨fun c => c.elim id (fun e => e ▸ inM), .inl⟩
  | none =>
    dsimp only
    have notin : z ∉ xs.toList.map txtOf := fun c => by
      obtain ⟨x, hx, e⟩ := (okT_mem g z).1 c
      have d := List.findIdx?_eq_none_iff.mp sc x hx
      rw [e] at d
      cases d
    have told : ∀ (b : Bool) {s₁ : Shared} {Q' : Unit → Shared → Prop}, Q' () s₁ → wpAny (model P w) A (match b with | true => rule "set.scan.the-table-gave-way" | false => pure ()) Q' E s₁ :=
      fun b s₁ Q' c => by cases b <;> first | exact wpAny_pure c | exact wpAny_rule c
    have q1 := layNew_perm tb xs ((PySem.strKind P w).hash z) (.str z t)
    have q2 := layNew_fits tb xs ((PySem.strKind P w).hash z) (.str z t)
    have q3 := layNew_ris tb xs ((PySem.strKind P w).hash z) (.str z t) hr
    have q4 := layNew_led tb xs ((PySem.strKind P w).hash z) (.str z t)
    generalize layNew tb xs ((PySem.strKind P w).hash z) (.str z t) = Y at q1 q2 q3 q4 ⊢
    obtain ⟨xs1, tb1, dm, ga⟩ := Y
    dsimp only at q1 q2 q3 q4 ⊢
    rw [Array.toList_push] at q1
    have qc : xs1.toList.Perm (((PySem.strKind P w).hash z, Value.str z t) :: xs.toList) := q1.trans (List.perm_append_singleton _ _)
    have qk : (xs1.toList.map txtOf).Perm (z :: xs.toList.map txtOf) := qc.map txtOf
    have g1 : ∀ x ∈ xs1.toList, OkT P w x := fun x hx => by
      rcases List.mem_cons.mp (qc.mem_iff.mp hx) with c | c
      · rw [c]; exact ⟨z, t, rfl, rfl⟩
      · exact g x c
    have nd1 : (xs1.toList.map txtOf).Nodup := qk.nodup_iff.mpr (List.nodup_cons.mpr ⟨notin, nd⟩)
    have m1 : ∀ i, (M i || decide (i = z)) = true ↔ i ∈ xs1.toList.map txtOf := fun i => by
      rw [Bool.or_eq_true, decide_eq_true_eq, hm i, qk.mem_iff, List.mem_cons]
      exact or_comm
    have sz1 : xs1.size = xs.size + 1 := by rw [← Array.length_toList, qc.length_eq, List.length_cons, Array.length_toList]
    have hb1 : xs1.size < scanBound := by rw [sz1]; exact room1
    have led1 : w.params.followText "set-order" = true ∨ tb1.led = true := hl.imp id fun c => by rw [q4]; exact c
    refine wpAny_bind (told _ ?_)
    split
    · refine wpAny_bind ?_
      rw [hashByValue_scannable 8 scz]
      refine wpAny_pure ?_
      refine setT_stored ?_ h0 hex hd g1 nd1 m1 hb1 ?_ ?_ ?_ ?_
      · exact fun b s₁ Q' c => by cases b <;> first | exact wpAny_pure c | exact wpAny_rule c
      · first | (split <;> first | exact q2 | exact SetTable.fits_plain_off q2) | exact q2
      · first | (split <;> exact q3) | exact q3
      · first | (split <;> exact led1) | exact led1
      · exact fun h' sb r => by dsimp only; exact wpAny_pure (hQ h' _ sb r)
    · refine wpAny_bind (wpAny_pure ?_)
      simp only [↓reduceIte]
      refine setT_stored ?_ h0 hex hd g1 nd1 m1 hb1 q2 q3 led1 ?_
      · exact fun b s₁ Q' c => by cases b <;> first | exact wpAny_pure c | exact wpAny_rule c
      · exact fun h' sb r => by dsimp only; exact wpAny_pure (hQ h' _ sb r)
end
end Qt
/-! sorted(set(xs)) of a list of texts: filling, sorting, the rule. -/
namespace Qt
open PySem PySem.Spec PyProof.Rows L2 Evl PySem.W
section
variable {P : Program} {w : World} {A : Around} {E : Value → Shared → Prop} {s : Shared} {a : Addr} {M : Str → Bool}
def SetU (P : Program) (w : World) (n : Nat) (xs : List Str) (S : Addr) (h : Heap) : Prop := SetT P w h S (fun k => decide (k ∈ xs)) ∧ ∀ ob es ep tb, h.get? S = some ob → ob.data = .set es ep tb → es.size ≤ n
theorem setT_mono {h h' : Heap} (R : SetT P w h a M) (k : ∀ o, h.get? a = some o → h'.get? a = some o) : SetT P w h' a M := by
  obtain ⟨ob, xs, ep, tb, h0, r⟩ := R
  exact ⟨ob, xs, ep, tb, k ob h0, r⟩
theorem setT_congr {h : Heap} {M' : Str → Bool} (R : SetT P w h a M) (e : ∀ k, M' k = M k) : SetT P w h a M' := by
  rw [show M' = M from funext e]
  exact R
def strOf (v : Value) : Str := match v with
  | .str k _ => k
  | _ => PySem.Str.empty
end
section
variable {X : Cx}
/-- sorted(set(xs)), xs texts: they in their order, each once -/
def tSortedSetS (K : PySem.W.Frag) (ta : TE) : TE := fun σ H Q => ta σ H fun x H1 => ∃ (l : Addr) (xs : List Str), x = .ref l ∧ SqL K H1 l (xs.map V.str) ∧ xs.length ≤ 4090 ∧
  ∀ ys : List Str, ys.Pairwise (fun x y => x.cps.toList < y.cps.toList) → (∀ k, k ∈ ys ↔ k ∈ xs) → ∀ p, H1 p = none → Q (.ref p) (upd H1 p (.lst (ys.map V.str)))
end
end Qt
/-! min within a block; comprehensions over very long lists. -/
namespace Qt
open PySem PySem.Spec PyProof.Rows L2 Evl
section
variable {X : Cx}
end
section
variable {K : PySem.W.Frag} {σ : L2.St} {H : Hp} {tl te : TE} {t : TT}
/-- over a list of any length that can stand -/
theorem el_lcLB {a : Addr} {xs : List V} {j : Nat} {vs : List Nat} (f : Nat → Bool) (v : Nat → V) (h : Ev tl σ H (.ref a)) (hx : SqL K H a xs) (hz : xs.length ≤ sizeLine) (hw : ∀ x, wipe ((wipe σ vs).set j (some x)) vs = wipe σ vs)
    (ht : ∀ (i : Nat) (x : V) H1, Ex H H1 → xs[i]? = some x → EvT t ((wipe σ vs).set j (some x)) H1 (f i)) (he : ∀ (i : Nat) (x : V) H1, Ex H H1 → xs[i]? = some x → f i = true → Ev te ((wipe σ vs).set j (some x)) H1 (v i)) :
    EvL (tLc (iList K tl) (gName j) t te vs) σ H (given xs.length f v) := fun H0 e Q q => h H0 e _ fun H1 e1 => ⟨a, rfl, ⟨xs, ex_l (e.trans e1) hx⟩, fun Dl hD => by
  refine lc_list (xs := xs) (fun i H' => Ex H1 H' ∧ H' Dl = some (.lst (given i f v))) ⟨Ex.new hD, upd_same⟩ (fun i H' _ p => ex_l ((e.trans e1).trans p.1) hx) (fun i x H2 hi p => ⟨hw x, ?_⟩) (fun H' p => q Dl H' (fresh_back e1 hD) (e1.trans p.1) p.2)
  obtain ⟨g1, g2⟩ := p
  have hil := (List.getElem?_eq_some_iff.mp hi).1
  refine ht i x H1 (e.trans e1) hi _ g1 _ fun H6 e6 => ?_
  cases hf : f i with
  | true =>
    refine iteT ?_
    refine he i x H1 (e.trans e1) hi hf _ (g1.trans e6) _ fun H7 e7 => ⟨given i f v, e7 _ _ (e6 _ _ g2), ?_, Ex.mut ((g1.trans e6).trans e7) hD, ?_⟩
    · unfold given
      have b2 := List.length_filter_le f (List.range i)
      rw [List.length_range] at b2
      rw [List.length_map]
      omega
    · rw [upd_same, given_yes hf]
  | false =>
    refine iteF ⟨g1.trans e6, ?_⟩
    have : given (i + 1) f v = given i f v := by
      unfold given
      rw [List.range_succ, List.filter_append, List.filter_cons_of_neg (by rw [hf]; exact Bool.false_ne_true), List.filter_nil, List.append_nil]
    rw [this]
    exact e6 _ _ g2⟩
end
end Qt
/-! list(enumerate(xs)): a new list of new pairs. -/
namespace Qt
open PySem PySem.Spec PyProof.Rows L2 Evl
theorem enum_no_len : typeLookup (.type "enumerate") "__len__" = pure none := am_miss_of_fast (by decide +kernel)
theorem enum_no_hint : typeLookup (.type "enumerate") "__length_hint__" = pure none := am_miss_of_fast (by decide +kernel)
/-- the enumerate object at turn i -/
def EnSt (e it l S : Addr) (items : Array Value) (i : Nat) (h : Heap) : Prop := h.IsListIter it l i ∧ h.IsList l items ∧
  ((∃ old, IsEnum h e it i old) ∨ ∃ old T f oT, IsEnumHeld h e it i old T f ∧ h.get? T = some oT ∧ T ≠ e ∧ T ≠ it ∧ T ≠ S)
/-- the pairs that were made -/
structure EnAcc (N : Nat) (e it S : Addr) (items : Array Value) (ts : List Addr) (h : Heap) : Prop where
  nd : ts.Nodup
  each : ∀ (j : Nat) (T : Addr), ts[j]? = some T → N ≤ T ∧ T ≠ e ∧ T ≠ it ∧ T ≠ S ∧ ∃ t v, items[j]? = some v ∧ h.get? T = some { cls := .type "tuple", data := .seq #[.int j t, v] }
section
variable {prog : Program} {w : World} {A : Around} {s : Shared} {R : Result → Shared → Prop}
theorem extend_enum {e it l S : Addr} {items : Array Value} (hh : A.in1.handled = none) (hei : e ≠ it) (hle : l ≠ e) (hli : l ≠ it) (hSe : S ≠ e) (hSi : S ≠ it) (hSl : S ≠ l) (hn : items.size ≤ sizeLine) (res : Value) (N : Nat) (h0 : Heap) :
    ∀ (k i : Nat) (s : Shared) (ts : List Addr), items.size - i = k → i ≤ items.size → EnSt e it l S items i s.heap → ts.length = i → N ≤ s.heap.objs.size → (∃ c, s.heap.get? S = some { cls := .type "list", dict := none, data := .seq (ts.map Value.ref).toArray c, slots := #[] }) →
    EnAcc N e it S items ts s.heap → (∀ b o, b ≠ e → b ≠ it → b ≠ S → h0.get? b = some o → s.heap.get? b = some o) →
    (∀ h' tk ts', ts'.length = items.size → (∃ c', h'.get? S = some { cls := .type "list", dict := none, data := .seq (ts'.map Value.ref).toArray c', slots := #[] }) → EnAcc N e it S items ts' h' → (∀ b o, b ≠ e → b ≠ it → b ≠ S → h0.get? b = some o → h'.get? b = some o) →
      R (.ok (.ret res)) { s with heap := h', toks := tk }) →
    codeAny (model prog w) A (.builtin "list.extend.loop" ⟨[.ref S, .ref e, res], []⟩) R s := by
  intro k
  induction k with
  | zero =>
    intro i s ts hk hi st hts hN hS acc hold hR
    obtain ⟨c, hS⟩ := hS
    have hin : i = items.size := by omega
    subst hin
    refine codeAny_builtin F.entry_extend_loop ?_
    rw [Around.under_plainId F.plain_extend_loop _]
    show wpAny _ A.in1 (pyNext (.ref e) >>= _) _ _ s
    obtain ⟨hit, hl, he⟩ := st
    have hx : items[items.size]? = none := Array.getElem?_eq_none (Nat.le_refl _)
    have fin : ∀ h', Heap.ExtBut it s.heap h' → R (.ok (.ret res)) { s with heap := h' } := fun h' hk' => by
      refine hR h' s.toks ts hts ⟨c, hk' _ _ hSi hS⟩ ⟨acc.nd, fun j T hj => ?_⟩ fun b o b1 b2 b3 q => hk' _ _ b2 (hold b o b1 b2 b3 q)
      obtain ⟨a1, a2, a3, a4, t, v, a5, a6⟩ := acc.each j T hj
      exact ⟨a1, a2, a3, a4, t, v, a5, hk' _ _ a3 a6⟩
    rcases he with ⟨old, he⟩ | ⟨old, T, f, oT, he, hT, r1, r2, r3⟩
    · exact wpAny_bind (wpAny_pyNext_enum_end hh he hit hl hx fun h' hk' => wpAny_pure (fin h' hk'))
    · exact wpAny_bind (wpAny_pyNext_enum_end_held hh he hit hl hx fun h' hk' => wpAny_pure (fin h' hk'))
  | succ k ih =>
    intro i s ts hk hi st hts hN hS acc hold hR
    obtain ⟨c, hS⟩ := hS
    have hlt : i < items.size := by omega
    refine codeAny_builtin F.entry_extend_loop ?_
    rw [Around.under_plainId F.plain_extend_loop _]
    show wpAny _ A.in1 (pyNext (.ref e) >>= _) _ _ s
    obtain ⟨hit, hl, he⟩ := st
    have hx := Array.getElem?_eq_getElem hlt
    have hec : ((i + 1 : Nat) : Int) = (i : Int) + 1 := by omega
    have nit : s.heap.objs.size ≠ it := let ⟨_, x, _⟩ := hit; Nat.ne_of_gt (Heap.lt_size x)
    have nS : s.heap.objs.size ≠ S := Nat.ne_of_gt (Heap.lt_size hS)
    -- what follows a step
    have step : ∀ (h' : Heap) (ne : s.heap.objs.size ≠ e), h'.IsListIter it l (i + 1) →
        (∃ old T f oT, IsEnumHeld h' e it ((i : Int) + 1) old T f ∧ h'.get? T = some oT ∧ T ≠ e ∧ T ≠ it ∧ T ≠ S) →
        h'.get? s.heap.objs.size = some { cls := .type "tuple", data := .seq #[.int i s.toks, items[i]] } → h'.objs.size = s.heap.objs.size + 1 → (∀ b o, b ≠ e → b ≠ it → s.heap.get? b = some o → h'.get? b = some o) →
        wpAny (model prog w) A.in1 (updateSeq S (·.push (.ref s.heap.objs.size)) >>= fun _ => again (.builtin "list.extend.loop" ⟨[.ref S, .ref e, res], []⟩))
          (fun fin s' => match fin with | .done f => R (.ok f) s' | .again c' => c'.quiet = true ∧ codeAny (model prog w) A c' R s') (fun e s' => R (.error e) s') { s with heap := h', toks := s.toks + 1 } := fun h' ne a1 a2 a4 a5 a6 => by
      have hS' := a6 S _ hSe hSi hS
      refine wpAny_bind ?_
      have oth : ∀ b o, b ≠ S → h'.get? b = some o → (h'.update S (Obj.mapSeq (·.push (.ref s.heap.objs.size)))).get? b = some o := fun b o hb q => (Heap.get?_update_other _ _ (Ne.symm hb)).trans q
      refine wpAny_updateSeq hS' rfl (wpAny_pure ⟨plainId_quiet F.plain_extend_loop _, ih (i + 1) _ (ts ++ [s.heap.objs.size]) (by omega) hlt ?_ (by rw [List.length_append, hts]; rfl) ?_ ?_ ?_ (fun b o b1 b2 b3 q => oth b o b3 (a6 b o b1 b2 (hold b o b1 b2 b3 q))) fun h'' tk ts' q1 q2 q3 q4 => hR h'' tk ts' q1 q2 q3 q4⟩) (by simp only [List.size_toArray, List.length_map]; omega) (by
        show ((ts.map Value.ref).toArray.push (.ref s.heap.objs.size)).size ≤ sizeLine + 1
        rw [Array.size_push]; simp only [List.size_toArray, List.length_map]; omega)
      · obtain ⟨o, ho, r⟩ := a1
        obtain ⟨ol, hol, rl⟩ := hl
        obtain ⟨old, T, f, oT, b1, b2, b3, b4, b5⟩ := a2
        exact ⟨⟨o, oth _ _ (Ne.symm hSi) ho, r⟩, ⟨ol, oth _ _ (Ne.symm hSl) (a6 l _ hle hli hol), rl⟩, .inr ⟨old, T, f, oT, (by rw [hec]; exact oth _ _ (Ne.symm hSe) b1), oth _ _ b5 b2, b3, b4, b5⟩⟩
      · show N ≤ (h'.update S _).objs.size
        rw [Heap.size_update, a5]
        omega
      · have := Heap.get?_update_self (Obj.mapSeq (·.push (Value.ref s.heap.objs.size))) hS' rfl
        rw [List.map_append]
        exact ⟨_, by simpa [Obj.mapSeq] using this⟩
      · refine ⟨?_, fun j T hj => ?_⟩
        · rw [List.nodup_append]
          refine ⟨acc.nd, by simp, fun a ha b hb => ?_⟩
          obtain ⟨j, hj⟩ := List.getElem?_of_mem ha
          obtain ⟨_, _, _, _, _, _, _, z⟩ := acc.each j a hj
          rw [List.mem_singleton.mp hb]
          exact Nat.ne_of_lt (Heap.lt_size z)
        · by_cases hj2 : j < ts.length
          · rw [List.getElem?_append_left hj2] at hj
            obtain ⟨c1, c2, c3, c4, t, v, c5, c6⟩ := acc.each j T hj
            exact ⟨c1, c2, c3, c4, t, v, c5, oth _ _ c4 (a6 _ _ c2 c3 c6)⟩
          · rw [List.getElem?_append_right (by omega)] at hj
            have hj3 : j - ts.length = 0 := by
              rcases Nat.eq_zero_or_pos (j - ts.length) with z | z
              · exact z
              · rw [List.getElem?_eq_none (by simp; omega)] at hj; cases hj
            rw [hj3] at hj
            obtain rfl : s.heap.objs.size = T := Option.some.inj hj
            obtain rfl : j = i := by omega
            exact ⟨hN, ne, nit, nS, s.toks, items[j], hx, oth _ _ nS a4⟩
    rcases he with ⟨old, he⟩ | ⟨old, T, f, oT, he, hT, r1, r2, r3⟩
    · have ne : s.heap.objs.size ≠ e := Nat.ne_of_gt (Heap.lt_size he)
      refine wpAny_bind (wpAny_pyNext_enum_item he hit hl hx hei fun h' ho hit' hT hsz hk' => ?_)
      exact step h' ne hit' ⟨_, s.heap.objs.size, false, _, ho, hT, ne, nit, nS⟩ hT hsz hk'
    · have ne : s.heap.objs.size ≠ e := Nat.ne_of_gt (Heap.lt_size he)
      refine wpAny_bind (wpAny_pyNext_enum_item_held he hT r1 r2 hit hl hx hei fun h' ho hit' hT' hsz hk' => ?_)
      exact step h' ne hit' ⟨old, T, true, oT, ho, hk' _ _ r1 r2 hT, r1, r2, r3⟩ hT' hsz hk'
theorem list_init_enum {e it l S : Addr} {items : Array Value} (hh : A.in1.handled = none) (hei : e ≠ it) (hle : l ≠ e) (hli : l ≠ it) (hSe : S ≠ e) (hSi : S ≠ it) (hSl : S ≠ l) (hn : items.size ≤ sizeLine)
    (hst : EnSt e it l S items 0 s.heap) (hS : s.heap.get? S = some { cls := .type "list", data := .seq #[] })
    (hR : ∀ h' tk ts', ts'.length = items.size → (∃ c', h'.get? S = some { cls := .type "list", dict := none, data := .seq (ts'.map Value.ref).toArray c', slots := #[] }) → EnAcc s.heap.objs.size e it S items ts' h' → (∀ b o, b ≠ e → b ≠ it → b ≠ S → s.heap.get? b = some o → h'.get? b = some o) →
      R (.ok (.ret .none)) { s with heap := h', toks := tk }) :
    wpAny (model prog w) A.in1 (Builtin.«list.__init__» ⟨[.ref S, .ref e], []⟩)
      (fun fin s' => match fin with | .done f => R (.ok f) s' | .again c' => c'.quiet = true ∧ codeAny (model prog w) A c' R s') (fun e s' => R (.error e) s') s := by
  have hT : ∀ {h : Heap}, EnSt e it l S items 0 h → ({ s with heap := h } : Shared).TypeIs (.ref e) "enumerate" := fun {h} st => by
    obtain ⟨_, _, ⟨_, he⟩ | ⟨_, _, _, _, he, _⟩⟩ := st <;> exact ⟨_, he, rfl⟩
  have frame : ∀ {h h' : Heap}, EnSt e it l S items 0 h → (∀ b o, b ≠ S → h.get? b = some o → h'.get? b = some o) → EnSt e it l S items 0 h' := fun {h h'} st k => by
    obtain ⟨⟨o, ho, r⟩, ⟨ol, hol, rl⟩, he⟩ := st
    refine ⟨⟨o, k _ _ (Ne.symm hSi) ho, r⟩, ⟨ol, k _ _ (Ne.symm hSl) hol, rl⟩, ?_⟩
    rcases he with ⟨old, he⟩ | ⟨old, T, f, oT, b1, b2, b3, b4, b5⟩
    · exact .inl ⟨old, k _ _ (Ne.symm hSe) he⟩
    · exact .inr ⟨old, T, f, oT, k _ _ (Ne.symm hSe) b1, k _ _ b5 b2, b3, b4, b5⟩
  show wpAny _ A.in1 (do let old ← Builtin.List.listItems (.ref S); Builtin.List.listUpdate (.ref S) (fun _ => #[]); letGo old.toList.reverse; Builtin.List.listExtendWith (.ref S) (.ref e) .none) _ _ s
  refine wpAny_bind ?_
  unfold Builtin.List.listItems
  refine wpAny_bind (wpAny_seqItems hS rfl (wpAny_pure ?_))
  show wpAny _ A.in1 (updateSeq S (fun _ => #[]) >>= fun _ => letGo (#[] : Array Value).toList.reverse >>= fun _ => Builtin.List.listExtendWith (.ref S) (.ref e) .none) _ _ s
  refine wpAny_bind (wpAny_updateSeq hS rfl ?_)
  have hS₂ := Heap.get?_update_self (Obj.mapSeq (fun _ => (#[] : Array Value))) hS rfl
  have oth : ∀ b o, b ≠ S → s.heap.get? b = some o → (s.heap.update S (Obj.mapSeq (fun _ => (#[] : Array Value)))).get? b = some o :=
    fun b o hb e => (Heap.get?_update_other _ _ (Ne.symm hb)).trans e
  refine wpAny_bind (wpAny_letGo ?_)
  have st2 := frame hst oth
  have zz : (s.heap.update S (Obj.mapSeq (fun _ => (#[] : Array Value)))).objs.size = s.heap.objs.size := Heap.size_update ..
  generalize hh2 : s.heap.update S (Obj.mapSeq (fun _ => (#[] : Array Value))) = h2 at hS₂ oth st2 zz
  unfold Builtin.List.listExtendWith
  refine wpAny_bind (wpAny_typeOf (hT st2) ?_)
  have h1 : Builtin.List.listSameRef (.ref S) (.ref e) = false := by simp [Builtin.List.listSameRef, hSe]
  have h2' : (Value.type "enumerate" == Value.type "list") = false := by decide
  have h3 : (Value.type "enumerate" == Value.type "tuple") = false := by decide
  simp only [h1, h2', h3, Bool.or_false, Bool.false_eq_true, if_false]
  have itr : ∀ {Q E}, Q (.ref e) { s with heap := h2 } → wpAny (model prog w) A.in1 (pyIter (.ref e)) Q E { s with heap := h2 } := fun q => by
    obtain ⟨_, _, ⟨_, he⟩ | ⟨_, _, _, _, he, _⟩⟩ := st2
    · exact wpAny_pyIter_enum he q
    · have hT2 : ({ s with heap := h2 } : Shared).TypeIs (.ref e) "enumerate" := ⟨_, he, rfl⟩
      refine wpAny_pyIter_slot hT2 F.slot_enumerate_iter (wpAny_call_entry F.slot_enumerate_iter hT2 F.entry_enumerate_iter ?_ (F.args_enumerate_iter_1 _))
      show wpAny _ _ (ret (.ref e)) _ _ _
      exact wpAny_pure ⟨_, rfl, "enumerate", _, hT2, F.slot_enumerate_next.lookup, q⟩
  refine wpAny_bind (itr ?_)
  refine wpAny_bind (wpAny_holding ?_)
  unfold Builtin.List.listLengthHint
  refine wpAny_bind (wpAny_specialOf (hT st2) enum_no_len ?_)
  show wpAny _ A.in1 (specialOf (Value.ref e) (Str.ofString "__length_hint__") >>= _) _ _ _
  refine wpAny_bind (wpAny_specialOf (hT st2) enum_no_hint ?_)
  refine wpAny_pure ?_
  show wpAny _ A.in1 (rule "list.extend.makes-room" >>= fun _ => Builtin.List.listTouch (.ref S) >>= fun _ =>
    again (.builtin "list.extend.loop" ⟨[.ref S, .ref e, .none], []⟩)) _ _ _
  refine wpAny_bind (wpAny_rule ?_)
  refine wpAny_bind ?_
  show wpAny _ A.in1 (updateSeq S (·.push .none) >>= fun _ => updateSeq S (·.pop)) _ _ _
  refine wpAny_bind (wpAny_updateSeq hS₂ rfl ?_)
  have hS₃ := Heap.get?_update_self (Obj.mapSeq (·.push Value.none)) hS₂ rfl
  refine wpAny_updateSeq (hz := by seq_fits) hS₃ rfl ?_
  have hS₄ := Heap.get?_update_self (Obj.mapSeq (·.pop)) hS₃ rfl
  have oth4 : ∀ b o, b ≠ S → h2.get? b = some o → ((h2.update S (Obj.mapSeq (·.push Value.none))).update S (Obj.mapSeq (·.pop))).get? b = some o :=
    fun b o hb e => (Heap.get?_update_other _ _ (Ne.symm hb)).trans ((Heap.get?_update_other _ _ (Ne.symm hb)).trans e)
  refine wpAny_pure ⟨plainId_quiet F.plain_extend_loop _, extend_enum hh hei hle hli hSe hSi hSl hn .none s.heap.objs.size s.heap items.size 0 _ [] (by omega) (Nat.zero_le _) (frame st2 oth4) rfl ?_ ⟨_, hS₄⟩ ⟨List.nodup_nil, fun j T hj => by cases hj⟩
    (fun b o b1 b2 b3 q => oth4 b o b3 (oth b o b3 q)) fun h' tk ts' q1 q2 q3 q4 => hR h' tk ts' q1 q2 q3 q4⟩
  show s.heap.objs.size ≤ ((h2.update S _).update S _).objs.size
  rw [Heap.size_update, Heap.size_update, zz]
  exact Nat.le_refl _
end
section
variable {prog : Program} {w : World} {A : Around} {E : Value → Shared → Prop} {s : Shared}
theorem call_list_enum {e it l : Addr} {items : Array Value} {old : Value} {Q : Value → Shared → Prop} (hh : A.handled = none) (hei : e ≠ it) (hle : l ≠ e) (hli : l ≠ it) (hn : items.size ≤ sizeLine)
    (he : IsEnum s.heap e it 0 old) (hit : s.heap.IsListIter it l 0) (hl : s.heap.IsList l items)
    (hQ : ∀ h' tk S ts', ts'.length = items.size → s.heap.objs.size ≤ S → (∃ c', h'.get? S = some { cls := .type "list", dict := none, data := .seq (ts'.map Value.ref).toArray c', slots := #[] }) → EnAcc s.heap.objs.size e it S items ts' h' → (∀ b o, b ≠ e → b ≠ it → s.heap.get? b = some o → h'.get? b = some o) →
      Q (.ref S) { s with heap := h', toks := tk }) :
    wpAny (model prog w) A (call (.type "list") [.ref e]) Q E s := by
  have hSe : s.heap.objs.size ≠ e := Nat.ne_of_gt (Heap.lt_size he)
  have hSi : s.heap.objs.size ≠ it := by obtain ⟨o, ho, _⟩ := hit; exact Nat.ne_of_gt (Heap.lt_size ho)
  have hSl : s.heap.objs.size ≠ l := by obtain ⟨o, ho, _⟩ := hl; exact Nat.ne_of_gt (Heap.lt_size ho)
  refine callType_codes (Q₁ := fun obj s₁ => obj = .ref s.heap.objs.size ∧ s₁ = { s with heap := s.heap.push { cls := .type "list", data := .seq #[] } }) F.called_list (F.typeCall_list_1 _) F.entry_list_init
    (code_list_new _ ⟨rfl, rfl⟩) fun obj s₁ h₁ => ?_
  obtain ⟨rfl, rfl⟩ := h₁
  have hS : (s.heap.push { cls := .type "list", data := .seq #[] }).get? s.heap.objs.size = some { cls := .type "list", data := .seq #[] } := Heap.get?_push_size _ rfl
  have up : ∀ b o, s.heap.get? b = some o → (s.heap.push { cls := .type "list", data := .seq #[] }).get? b = some o := fun b o q => Heap.get?_push_of_some _ q
  refine ⟨⟨_, hS, rfl⟩, F.args_list_init_2 _ _, list_init_enum (A := A.in1) (s := { s with heap := s.heap.push { cls := .type "list", data := .seq #[] } }) hh hei hle hli hSe hSi hSl hn
    ⟨(let ⟨o, ho, r⟩ := hit; ⟨o, up _ _ ho, r⟩), (let ⟨o, ho, r⟩ := hl; ⟨o, up _ _ ho, r⟩), .inl ⟨old, up _ _ he⟩⟩ hS fun h' tk ts' q1 q2 q3 q4 => ⟨rfl, hQ h' tk _ ts' q1 (Nat.le_refl _) q2 ⟨q3.nd, fun j T hj => ?_⟩ fun b o b1 b2 q => q4 b o b1 b2 (Nat.ne_of_lt (Heap.lt_size q)) (up _ _ q)⟩⟩
  obtain ⟨c1, c2⟩ := q3.each j T hj
  refine ⟨Nat.le_trans ?_ c1, c2⟩
  show s.heap.objs.size ≤ (s.heap.push _).objs.size
  rw [Heap.size_push]
  exact Nat.le_succ _
end
/-! ### many new tuples -/
section
variable {fs ex : List Addr} {H H1 : Hp} {h h' : Heap} {a : Addr} {o : HO} {P : Program} {w : World}
theorem un_more (u : Un fs ex H H1 h h') (hp : h.objs.size ≤ a) (hn : H1 a = none) : Un fs ex H (upd H1 a o) h h' where
  keep := u.keep
  slot := u.slot
  free := fun b v q n x => by rw [upd_ne (Nat.ne_of_lt (Nat.lt_of_lt_of_le (Heap.lt_size q) hp))]; exact u.free b v q n x
  there := u.there
  tups := fun b xs q => by have z := u.tups b xs q; rw [upd_ne (ne_of_none z hn)]; exact z
  frzs := fun b v xs q => by have z := u.frzs b v xs q; rw [upd_ne (ne_of_none z hn)]; exact z
  tbls := fun b ps q => by
    obtain ⟨m, z⟩ := u.tbls b ps q
    exact ⟨m, by rw [upd_ne (ne_of_none z hn)]; exact z⟩
theorem hok_more (x : HOk P w H1 h') (hn : H1 a = none) (new : ObjOk P w (upd H1 a o) h' a o) : HOk P w (upd H1 a o) h' := fun b u e => by
  by_cases hb : b = a
  · subst hb; rw [upd_same] at e; cases e; exact new
  · rw [upd_ne hb] at e
    exact (x b u e).stay (fun c v _ q => q) (fun c q => by rw [upd_ne (ne_of_none q hn)]; exact q) fun c xs q => by rw [upd_ne (ne_of_none q hn)]; exact q
/-- tuples that the heap holds are tracked -/
theorem more_tups (x : HOk P w H h') (u : Un fs ex H H h h') (nn : ∀ t, h.objs.size ≤ t → H t = none) : ∀ (ts : List Addr) (xss : List (List V)), ts.Nodup →
    Paired (fun t x => h.objs.size ≤ t ∧ x.length ≤ sizeLine ∧ ∃ its : List Value, Vals x its ∧ IsTup h' t its.toArray) ts xss →
    ∃ H1, Ex H H1 ∧ Un fs ex H H1 h h' ∧ HOk P w H1 h' ∧ Paired (fun t x => H1 t = some (.tup x)) ts xss ∧ ∀ t, h.objs.size ≤ t → t ∉ ts → H1 t = none
  | [], _, _, .nil => ⟨H, Ex.refl H, u, x, .nil, fun t ht _ => nn t ht⟩
  | t :: ts, _ :: xss, nd, .cons (b := xs) ⟨h1, h2, h3⟩ r => by
    obtain ⟨H1, e1, u1, x1, p1, n1⟩ := more_tups x u nn ts xss (List.nodup_cons.mp nd).2 r
    have hn := n1 t h1 (List.nodup_cons.mp nd).1
    refine ⟨upd H1 t (.tup xs), e1.trans (Ex.new hn), un_more u1 h1 hn, hok_more x1 hn ⟨h2, h3⟩, .cons upd_same (pr_imp p1 fun t' x' _ q => (Ex.new hn) _ _ q), fun t' ht hm => ?_⟩
    rw [upd_ne (fun z => hm (by rw [z]; exact List.mem_cons_self))]
    exact n1 t' ht fun z => hm (List.mem_cons_of_mem _ z)
end
/-- the items with their numbers -/
def enumL (xs : List V) : List (List V) := (List.range xs.length).map fun i => [.int (i : Nat), xs.getD i .non]
theorem enumL_len (xs : List V) : (enumL xs).length = xs.length := by unfold enumL; rw [List.length_map, List.length_range]
theorem paired_of {α β : Type} {R : α → β → Prop} : ∀ {ts : List α} {ws : List β}, ts.length = ws.length → (∀ (i : Nat) t w, ts[i]? = some t → ws[i]? = some w → R t w) → Paired R ts ws
  | [], [], _, _ => .nil
  | [], _ :: _, h, _ => by cases h
  | _ :: _, [], h, _ => by cases h
  | t :: ts, w :: ws, h, k => .cons (k 0 t w rfl rfl) (paired_of (by simpa using h) fun i t w h1 h2 => k (i + 1) t w h1 h2)
def tListEnum (K : PySem.W.Frag) (ta : TE) : TE := fun σ H Q => ta σ H fun x H1 => ∃ (l : Addr) (xs : List V), x = .ref l ∧ SqL K H1 l xs ∧
  ∀ p H2, H1 p = none → Ex H1 H2 → LTup H2 p (enumL xs) → Q (.ref p) H2
section
variable {X : Cx}
theorem pe_listEnum {a : Expr} {ta : TE} {p p2 q pos : Pos} (hc : X.calm = true) (hg : Gl X "list") (hm : X.mg "list" = none) (hg2 : Gl X "enumerate") (hm2 : X.mg "enumerate" = none) (ha : PE X a ta)
    (na : starEach [a] X.env = (false, eval a X.env) :: starEach [] X.env := by rfl) : PE X (.Call (.Name "list" p) [.Call (.Name "enumerate" p2) [a] [] q] [] pos) (tListEnum X.K ta) := by
  refine ⟨fun pins s σ H Q I h => Call_ (ld_blt I hg hm PyProof.Rows.boot_list (PyProof.Rows.callWith_type1 (PyProof.Rows.args_cons (Call_ (ld_blt I hg2 hm2 PyProof.Rows.boot_enumerate ?_)) rfl) rfl rfl))⟩
  refine PyProof.Rows.callWith_type1 (PyProof.Rows.args_cons (thn (ha.run pins s σ H _ I h) fun v s1 hh => PyProof.Rows.args_nil ?_) na) na rfl
  obtain ⟨x, H1, I1, r1, l, xs, rfl, hq, q1⟩ := hh
  cases r1
  obtain ⟨its, rv, pl, hz⟩ := I1.list hq
  refine call_enum0 (begins_list l its.toArray) pl.isList fun h' hE hIt hk => PyProof.Rows.args_nil ?_
  have hls : l < s1.heap.objs.size := by obtain ⟨o, ho, _⟩ := pl.isList; exact Heap.lt_size ho
  have hne1 : s1.heap.objs.size + 1 ≠ s1.heap.objs.size := Nat.succ_ne_self _
  have hlen := rv.length
  refine call_list_enum (I1.ok.hd hc) hne1 (Nat.ne_of_lt (Nat.lt_succ_of_lt hls)) (Nat.ne_of_lt hls) (by simp only [List.size_toArray]; omega) hE ⟨_, hIt, rfl, rfl⟩ (let ⟨o, ho, r⟩ := pl.isList; ⟨o, hk _ _ ho, r⟩) fun h2 tk S ts hts hS hSo acc hold => ?_
  have hgrow : s1.heap.objs.size ≤ h'.objs.size := Nat.le_of_lt (Heap.lt_size hIt)
  have keep : ∀ b o, s1.heap.get? b = some o → h2.get? b = some o := fun b o hb => hold b o (Nat.ne_of_lt (Nat.lt_succ_of_lt (Heap.lt_size hb))) (Nat.ne_of_lt (Heap.lt_size hb)) (hk b o hb)
  have pr : Paired (fun t x => s1.heap.objs.size ≤ t ∧ x.length ≤ sizeLine ∧ ∃ its : List Value, Vals x its ∧ IsTup h2 t its.toArray) ts (enumL xs) := by
    refine paired_of (by rw [enumL_len, hts]; simp only [List.size_toArray]; omega) fun i t x h1 h3 => ?_
    obtain ⟨c1, c2, c3, c4, tk1, v, c5, c6⟩ := acc.each i t h1
    have hi : i < xs.length := by
      have := (List.getElem?_eq_some_iff.mp h3).1
      rw [enumL_len] at this
      exact this
    have hx : x = [.int (i : Nat), xs.getD i .non] := by
      unfold enumL at h3
      rw [List.getElem?_map, List.getElem?_range hi] at h3
      exact (Option.some.inj h3).symm
    obtain ⟨u, hu, ru⟩ := rv.get (i := i) (x := xs[i]) (List.getElem?_eq_getElem hi)
    obtain rfl : u = v := by
      have z : its[i]? = some v := by simpa using c5
      rw [hu] at z
      exact Option.some.inj z
    subst hx
    refine ⟨Nat.le_trans hgrow c1, by show 2 ≤ sizeLine; decide, [.int (i : Nat) tk1, u], .cons ⟨_, rfl⟩ (.cons ?_ .nil), ⟨_, c6, rfl, _, rfl⟩⟩
    rw [List.getD_eq_getElem?_getD, List.getElem?_eq_getElem hi]
    exact ru
  obtain ⟨H2, e2, u2, x2, p2, n2⟩ := more_tups (fs := X.fs) (ex := []) (I1.hok.kept keep) (Un.kept keep) (fun t ht => I1.hok.fresh ht) ts (enumL xs) acc.nd pr
  have hSn : H2 S = none := n2 S (Nat.le_trans hgrow hS) fun hm => by
    obtain ⟨j, hj⟩ := List.getElem?_of_mem hm
    exact (acc.each j S hj).2.2.2.1 rfl
  obtain ⟨c', hSo⟩ := hSo
  have hv : Vals (ts.map V.ref) (ts.map Value.ref) := by
    clear hSo pr p2 n2 u2 x2 e2 hSn acc hts
    induction ts with
    | nil => exact .nil
    | cons t ts ih => exact .cons rfl ih
  have I2 := I1.un (t' := tk) (un_more u2 (Nat.le_trans hgrow hS) hSn) (hok_more (o := .lst (ts.map V.ref)) x2 hSn ⟨by rw [List.length_map, hts]; simp only [List.size_toArray]; omega, ts.map Value.ref, c', hv, hSo⟩)
  refine ⟨.ref S, _, I2, rfl, q1 S _ (I1.hok.fresh (Nat.le_trans hgrow hS)) (e2.trans (Ex.new hSn)) ⟨ts, upd_same, pr_imp p2 fun t x _ q => (Ex.new hSn) _ _ q⟩⟩
end
end Qt
/-! Things with the same text, grouped in a dict. -/
namespace Qt
open PySem PySem.Spec PyProof.Rows L2 Evl
/-! ### places with the same text -/
def firsts (f : Nat → Str) (i : Nat) : List Nat := (List.range i).filter fun a => decide (∀ j, j < a → f j ≠ f a)
def sameP (f : Nat → Str) (i a : Nat) : List Nat := (List.range i).filter fun j => decide (f j = f a)
theorem firsts_new {f : Nat → Str} {i : Nat} (h : ∀ j, j < i → f j ≠ f i) : firsts f (i + 1) = firsts f i ++ [i] := by
  unfold firsts
  rw [List.range_succ, List.filter_append, List.filter_cons_of_pos (by exact decide_eq_true h)]
  rfl
theorem firsts_old {f : Nat → Str} {i : Nat} (h : ¬ ∀ j, j < i → f j ≠ f i) : firsts f (i + 1) = firsts f i := by
  unfold firsts
  rw [List.range_succ, List.filter_append, List.filter_cons_of_neg (by rw [decide_eq_false h]; exact Bool.false_ne_true)]
  simp
theorem same_hit {f : Nat → Str} {i a : Nat} (h : f i = f a) : sameP f (i + 1) a = sameP f i a ++ [i] := by
  unfold sameP
  rw [List.range_succ, List.filter_append, List.filter_cons_of_pos (by exact decide_eq_true h)]
  rfl
theorem same_miss {f : Nat → Str} {i a : Nat} (h : f i ≠ f a) : sameP f (i + 1) a = sameP f i a := by
  unfold sameP
  rw [List.range_succ, List.filter_append, List.filter_cons_of_neg (by rw [decide_eq_false h]; exact Bool.false_ne_true)]
  simp
theorem firsts_mem {f : Nat → Str} {i a : Nat} : a ∈ firsts f i ↔ a < i ∧ ∀ j, j < a → f j ≠ f a := by
  unfold firsts
  rw [List.mem_filter, List.mem_range, decide_eq_true_iff]
theorem firsts_inj {f : Nat → Str} {i a b : Nat} (ha : a ∈ firsts f i) (hb : b ∈ firsts f i) (e : f a = f b) : a = b := by
  have h1 := (firsts_mem.mp ha).2
  have h2 := (firsts_mem.mp hb).2
  rcases Nat.lt_trichotomy a b with h | h | h
  · exact absurd e (h2 a h)
  · exact h
  · exact absurd e.symm (h1 b h)
theorem same_none {f : Nat → Str} {i : Nat} (h : ∀ j, j < i → f j ≠ f i) : sameP f i i = [] := by
  unfold sameP
  rw [List.filter_eq_nil_iff]
  intro j hj
  rw [decide_eq_true_iff]
  exact h j (List.mem_range.mp hj)
theorem nd_inj {α β : Type} {g : α → β} : ∀ {l : List α}, (l.map g).Nodup → ∀ {x y : α}, x ∈ l → y ∈ l → g x = g y → x = y
  | [], _, x, _, hx, _, _ => by cases hx
  | a :: l, h, x, y, hx, hy, e => by
    rw [List.map_cons, List.nodup_cons] at h
    rcases List.mem_cons.mp hx with e1 | e1
    · rcases List.mem_cons.mp hy with e2 | e2
      · exact e1.trans e2.symm
      · exact (h.1 (List.mem_map.mpr ⟨y, e2, by rw [← e, e1]⟩)).elim
    · rcases List.mem_cons.mp hy with e2 | e2
      · exact (h.1 (List.mem_map.mpr ⟨x, e1, by rw [e, e2]⟩)).elim
      · exact nd_inj h.2 e1 e2 e
abbrev entry (f : Nat → Str) (g : Nat × Addr) : Key × V := (Sum.inr (f g.1), V.ref g.2)
theorem val_some {f : Nat → Str} {z : Str} {v : V} : ∀ {gs : List (Nat × Addr)}, valV (gs.map (entry f)) (.inr z) = some v → ∃ g ∈ gs, f g.1 = z ∧ v = .ref g.2
  | [], h => by cases h
  | g :: r, h => by
    by_cases e : f g.1 = z
    · rw [List.map_cons, valV_pos (by show Sum.inr (f g.1) = _; rw [e])] at h
      exact ⟨g, List.mem_cons_self, e, (Option.some.inj h).symm⟩
    · rw [List.map_cons, valV_neg (by show ¬ Sum.inr (f g.1) = _; intro q; injection q with q; exact e q)] at h
      obtain ⟨g', h1, h2⟩ := val_some h
      exact ⟨g', List.mem_cons_of_mem _ h1, h2⟩
theorem val_none {f : Nat → Str} {z : Str} : ∀ {gs : List (Nat × Addr)}, valV (gs.map (entry f)) (.inr z) = none → ∀ g ∈ gs, f g.1 ≠ z
  | [], _, g, hg => by cases hg
  | g :: r, h, g', hg => by
    by_cases e : f g.1 = z
    · rw [List.map_cons, valV_pos (by show Sum.inr (f g.1) = _; rw [e])] at h
      cases h
    · rw [List.map_cons, valV_neg (by show ¬ Sum.inr (f g.1) = _; intro q; injection q with q; exact e q)] at h
      rcases List.mem_cons.mp hg with rfl | hg
      · exact e
      · exact val_none h g' hg
theorem cover {f : Nat → Str} {i : Nat} : ∀ {j : Nat}, j < i → ∃ a ∈ firsts f i, f a = f j := by
  intro j
  induction j using Nat.strongRecOn with
  | ind j ih =>
    intro hj
    by_cases h : ∀ k, k < j → f k ≠ f j
    · exact ⟨j, firsts_mem.mpr ⟨hj, h⟩, rfl⟩
    · have ⟨k, hk⟩ : ∃ k, k < j ∧ f k = f j := by
        apply Classical.byContradiction
        intro hn
        exact h fun k hk e => hn ⟨k, hk, e⟩
      obtain ⟨a, h1, h2⟩ := ih k hk.1 (by omega)
      exact ⟨a, h1, h2.trans hk.2⟩
/-- the dict of places as it stands behind i turns -/
structure Gr (f : Nat → Str) (pv : Nat → V) (B : Hp) (d : Addr) (i : Nat) (H : Hp) (gs : List (Nat × Addr)) : Prop where
  fs : gs.map (·.1) = firsts f i
  hd : H d = some (.dK (gs.map (entry f)))
  ls : ∀ g ∈ gs, H g.2 = some (.lst ((sameP f i g.1).map pv))
  nd : (gs.map (·.2)).Nodup
  nw : ∀ g ∈ gs, B g.2 = none
  ex : ∀ b o, b ≠ d → B b = some o → H b = some o
theorem Gr.grow {f : Nat → Str} {pv : Nat → V} {B : Hp} {d : Addr} {i : Nat} {H H' : Hp} {gs : List (Nat × Addr)} (h : Gr f pv B d i H gs) (e : Ex H H') : Gr f pv B d i H' gs :=
  ⟨h.fs, e _ _ h.hd, fun g hg => e _ _ (h.ls g hg), h.nd, h.nw, fun b o hb q => e _ _ (h.ex b o hb q)⟩
theorem Gr.hit {f : Nat → Str} {pv : Nat → V} {B : Hp} {d : Addr} {i : Nat} {H : Hp} {gs : List (Nat × Addr)} (h : Gr f pv B d i H gs) {g : Nat × Addr} (hg : g ∈ gs) (e : f g.1 = f i) :
    Gr f pv B d (i + 1) (upd H g.2 (.lst ((sameP f i g.1).map pv ++ [pv i]))) gs := by
  have mem : ∀ {g'}, g' ∈ gs → g'.1 ∈ firsts f i := fun hg' => by rw [← h.fs]; exact List.mem_map.mpr ⟨_, hg', rfl⟩
  have old : ¬ ∀ j, j < i → f j ≠ f i := fun q => q g.1 (firsts_mem.mp (mem hg)).1 e
  have nd : d ≠ g.2 := fun q => by
    have := h.ls g hg
    rw [← q, h.hd] at this
    cases this
  refine ⟨by rw [firsts_old old]; exact h.fs, by rw [upd_ne nd]; exact h.hd, fun g' hg' => ?_, h.nd, h.nw, fun b o hb q => ?_⟩
  · by_cases eq : g' = g
    · subst eq
      rw [upd_same, same_hit e.symm]
      rw [List.map_append]
      rfl
    · have ne2 : g'.2 ≠ g.2 := fun q => eq (nd_inj h.nd hg' hg q)
      have ne1 : f i ≠ f g'.1 := fun q => by
        have := firsts_inj (mem hg') (mem hg) (q.symm.trans e.symm)
        have h2 := nd_inj (g := fun g : Nat × Addr => g.2) h.nd hg' hg
        exact eq (nd_inj (g := fun g : Nat × Addr => g.1) (by
          rw [h.fs]
          unfold firsts
          exact List.Pairwise.filter _ List.nodup_range) hg' hg this)
      rw [upd_ne ne2, same_miss ne1]
      exact h.ls g' hg'
  · have : b ≠ g.2 := fun z => by
      have n := h.nw g hg
      rw [← z, q] at n
      cases n
    rw [upd_ne this]
    exact h.ex b o hb q
theorem Gr.miss {f : Nat → Str} {pv : Nat → V} {B : Hp} {d : Addr} {i : Nat} {H : Hp} {gs : List (Nat × Addr)} (h : Gr f pv B d i H gs) {L : Addr} (hL : H L = none) (hB : B d ≠ none) (no : ∀ g ∈ gs, f g.1 ≠ f i) :
    Gr f pv B d (i + 1) (upd (upd (upd H L (.lst [])) d (.dK (gs.map (entry f) ++ [(Sum.inr (f i), V.ref L)]))) L (.lst [pv i])) (gs ++ [(i, L)]) := by
  have new : ∀ j, j < i → f j ≠ f i := fun j hj e => by
    obtain ⟨a, h1, h2⟩ := cover hj
    rw [← h.fs] at h1
    obtain ⟨g, hg, rfl⟩ := List.mem_map.mp h1
    exact no g hg (h2.trans e)
  have dL : d ≠ L := fun q => by rw [← q, h.hd] at hL; cases hL
  have at_ : ∀ b, b ≠ d → b ≠ L → upd (upd (upd H L (.lst [])) d (.dK (gs.map (entry f) ++ [(Sum.inr (f i), V.ref L)]))) L (.lst [pv i]) b = H b := fun b h1 h2 => by
    rw [upd_ne h2, upd_ne h1, upd_ne h2]
  have gL : ∀ g ∈ gs, g.2 ≠ L := fun g hg q => by
    have := h.ls g hg
    rw [q, hL] at this
    cases this
  have gd : ∀ g ∈ gs, g.2 ≠ d := fun g hg q => by
    have := h.ls g hg
    rw [q, h.hd] at this
    cases this
  have BL : B L = none := by
    cases q : B L with
    | none => rfl
    | some o =>
      have := h.ex L o dL.symm q
      rw [hL] at this
      cases this
  refine ⟨?_, ?_, fun g hg => ?_, ?_, fun g hg => ?_, fun b o hb q => ?_⟩
  · rw [List.map_append, h.fs, firsts_new new]
    rfl
  · rw [upd_ne dL, upd_same, List.map_append]
    rfl
  · rcases List.mem_append.mp hg with hg | hg
    · rw [at_ _ (gd g hg) (gL g hg), same_miss (fun q => no g hg q.symm)]
      exact h.ls g hg
    · obtain rfl := List.mem_singleton.mp hg
      rw [upd_same, same_hit rfl, same_none new]
      rfl
  · rw [List.map_append, List.map_cons, List.map_nil, nodup_snoc]
    refine ⟨h.nd, fun q => ?_⟩
    obtain ⟨g, hg, e⟩ := List.mem_map.mp q
    exact gL g hg e
  · rcases List.mem_append.mp hg with hg | hg
    · exact h.nw g hg
    · obtain rfl := List.mem_singleton.mp hg
      exact BL
  · have : b ≠ L := fun z => by rw [← z, q] at BL; cases BL
    rw [at_ b hb this]
    exact h.ex b o hb q
def longs (xs : List (List V)) : List (List V) := xs.filter fun x => decide (1 < x.length)
theorem longs_len {xs : List (List V)} {x : List V} (h : x ∈ longs xs) : 1 < x.length := of_decide_eq_true (List.mem_filter.mp h).2
/-- the groups of n things pv with the texts f -/
def groupsL (f : Nat → Str) (pv : Nat → V) (n : Nat) : List (List V) := longs ((firsts f n).map fun a => (sameP f n a).map pv)
theorem firsts_len (f : Nat → Str) (i : Nat) : (firsts f i).length ≤ i := by
  unfold firsts
  have z3 := List.length_filter_le (fun a => decide (∀ j, j < a → f j ≠ f a)) (List.range i)
  rw [List.length_range] at z3
  exact z3
theorem same_len (f : Nat → Str) (i a : Nat) : (sameP f i a).length ≤ i := by
  unfold sameP
  have z3 := List.length_filter_le (fun j => decide (f j = f a)) (List.range i)
  rw [List.length_range] at z3
  exact z3
end Qt
/-! Small lemmas for calls that may raise. -/
namespace Qt
open PySem PySem.Spec PyProof.Rows L2 Evl
section
variable {K : PySem.W.Frag} {σ : L2.St} {H : Hp} {te : TE} {ta : TA}
/-- a call whose promise is told here, its arguments known -/
theorem x_call {sp : Sp} {dvs vs : List V} {E : XK} {Q : VK} (h : EvA ta σ H vs) (k : ∀ H1, Ex H H1 → sp (vs ++ dvs) H1 Q E) : tCall sp dvs E ta σ H Q := h H (Ex.refl H) _ k
/-- no promise at all -/
def spNo : Sp := fun _ _ _ _ => False
def tTruth (K : PySem.W.Frag) (ta : TE) : TT := fun σ H Q => ta σ H fun x H' => ∃ k, TruV K x H' k ∧ Q k H'
end
end Qt
/-! Lists of new things told by a word (tuples in tuples), and their order. -/
namespace Qt
open PySem PySem.Spec PyProof.Rows L2 Evl PySem.W
/-- the tuples stay -/
def Tx (H H' : Hp) : Prop := ∀ a xs, H a = some (.tup xs) → H' a = some (.tup xs)
theorem Tx.of {H H' : Hp} (e : Ex H H') : Tx H H' := fun a xs h => e a _ h
theorem Tx.trans {H H1 H2 : Hp} (a : Tx H H1) (b : Tx H1 H2) : Tx H H2 := fun x xs h => b x xs (a x xs h)
theorem Tx.lst {H : Hp} {p : Addr} {xs ys : List V} (h : H p = some (.lst xs)) : Tx H (upd H p (.lst ys)) := fun a zs ha => by
  rw [upd_ne (fun z => by rw [z, h] at ha; cases ha)]
  exact ha
/-- a new list, of which R is known -/
def EvP (te : TE) (σ : L2.St) (H : Hp) (R : List V → Hp → Prop) : Prop := ∀ H1, Ex H H1 → ∀ Q : VK, (∀ p H2 vs, H1 p = none → Ex H1 H2 → H2 p = some (.lst vs) → R vs H2 → Q (.ref p) H2) → te σ H1 Q
section
variable {K : PySem.W.Frag} {σ : L2.St} {H : Hp} {tl te tb : TE} {tt : TT} {ta : TA} {D : Ends} {tz : TS}
/-- which of the turns give -/
def gvn (n : Nat) (f : Nat → Bool) : List Nat := (List.range n).filter f
theorem gvn_succ_yes {n : Nat} {f : Nat → Bool} (h : f n = true) : gvn (n + 1) f = gvn n f ++ [n] := by
  unfold gvn
  rw [List.range_succ, List.filter_append, List.filter_cons_of_pos h]
  rfl
theorem gvn_succ_no {n : Nat} {f : Nat → Bool} (h : f n = false) : gvn (n + 1) f = gvn n f := by
  unfold gvn
  rw [List.range_succ, List.filter_append, List.filter_cons_of_neg (by rw [h]; exact Bool.false_ne_true)]
  simp
theorem gvn_len (n : Nat) (f : Nat → Bool) : (gvn n f).length ≤ n := by
  have h := List.length_filter_le f (List.range n)
  rw [List.length_range] at h
  exact h
/-- between the turns -/
def Pw (H : Hp) (f : Nat → Bool) (rep : Nat → V → Hp → Prop) (Dl : Addr) (i : Nat) (H' : Hp) : Prop := H Dl = none ∧ Ex H H' ∧ ∃ ws, H' Dl = some (.lst ws) ∧ Paired (fun v j => rep j v H') ws (gvn i f)
theorem pw_turn {H H' : Hp} {f : Nat → Bool} {rep : Nat → V → Hp → Prop} (mono : ∀ i v H1 H2, Tx H1 H2 → rep i v H1 → rep i v H2) {Dl : Addr} {i : Nat} {σ2 : L2.St} (p : Pw H f rep Dl i H') (hi : i < 50000) (ht : EvT tt σ2 H (f i)) (he : f i = true → EvR te σ2 H (rep i)) :
    tt σ2 H' fun b H3 => if b = true then te σ2 H3 fun y H4 => ∃ acc, H4 Dl = some (.lst acc) ∧ acc.length < sizeLine ∧ Pw H f rep Dl (i + 1) (upd H4 Dl (.lst (acc ++ [y]))) else Pw H f rep Dl (i + 1) H3 := by
  obtain ⟨p1, p2, ws, p3, p4⟩ := p
  refine ht H' p2 _ fun H3 e3 => ?_
  cases hf : f i with
  | true =>
    refine iteT (he hf H3 (p2.trans e3) _ fun y H4 e4 hy => ?_)
    have hD := e4 Dl _ (e3 Dl _ p3)
    have hl := pr_len p4
    have hg := gvn_len i f
    refine ⟨ws, hD, sz_lt (by omega), p1, Ex.mut ((p2.trans e3).trans e4) p1, ws ++ [y], upd_same, ?_⟩
    rw [gvn_succ_yes hf]
    exact pr_put (pr_imp p4 fun v j _ r => mono _ _ _ _ ((Tx.of (e3.trans e4)).trans (Tx.lst hD)) r) (mono _ _ _ _ (Tx.lst hD) hy)
  | false =>
    refine iteF ⟨p1, p2.trans e3, ws, e3 Dl _ p3, ?_⟩
    rw [gvn_succ_no hf]
    exact pr_imp p4 fun v j _ r => mono _ _ _ _ (Tx.of e3) r
end
/-! ### sorted lists -/
end Qt
/-! The first group. -/
namespace Qt
open PySem PySem.Spec PyProof.Rows L2 Evl
def lotB (f : Nat → Str) (n a : Nat) : Bool := decide (1 < (sameP f n a).length) && decide ((sameP f n a).head? = some a)
/-! ### what is appended, told by a word -/
section
variable {K : PySem.W.Frag} {σ : L2.St} {H : Hp} {ta te : TE} {ta' : TA} {D : Ends} {tz : TS}
end
end Qt
/-! What laws want often. -/
namespace Qt
open PySem PySem.Spec PyProof.Rows L2 Evl
section
variable {K : PySem.W.Frag} {σ : L2.St} {H : Hp} {te : TE}
end
end Qt
/-! zip(*xs): texts of one length put beside each other, a new tuple for each place, given to one name. -/
namespace Qt
open PySem PySem.Spec PyProof.Rows L2 Evl
/-- a zip's cell; o0 tells of the tuple it gave out last -/
abbrev ZipCell (h : Heap) (z TI TO : Nat) (o0 : Value) (f : Bool) : Prop := h.get? z = some { cls := .type "zip", dict := none, data := .fields #[o0, .bool f, .bool false, .ref TI, .ref TO], slots := #[] }
theorem neN {a b : Nat} (h : a ≠ b) : @Ne Addr a b := h
abbrev refsFrom (b n : Nat) : List Value := (List.range n).map fun k => .ref (b + k)
abbrev signAt (x : Str × Tok) (i : Nat) (u : Tok) : Value := .str ⟨#[x.1.cps.getD i 0]⟩ u
structure ZnSt (b TI TO z : Nat) (ts : List (Str × Tok)) (i : Nat) (h : Heap) : Prop where
  zip : ∃ o0 f, (o0 = .none ∨ ∃ T : Nat, o0 = rawInt T) ∧ ZipCell h z TI TO o0 f
  ti : h.get? TI = some { cls := .type "tuple", data := .seq (refsFrom b ts.length).toArray }
  to : ∃ a : Array Value, a.size = ts.length ∧ h.get? TO = some { cls := .type "tuple", data := .seq a }
  its : ∀ (k : Nat) (x : Str × Tok), ts[k]? = some x → h.IsStrIter (b + k) (strIterType x.1) x.1 x.2 i
/-- while a tuple is being made: the first k iterators have gone on -/
def ZnIts (b : Nat) (ts : List (Str × Tok)) (i k : Nat) (h : Heap) : Prop := ∀ (j : Nat) (x : Str × Tok), ts[j]? = some x → h.IsStrIter (b + j) (strIterType x.1) x.1 x.2 (if j < k then i + 1 else i)
def ZnVals (ts : List (Str × Tok)) (i k : Nat) (vs : List Value) : Prop := ∀ (j : Nat) (x : Str × Tok), j < k → ts[j]? = some x → ∃ u, vs[j]? = some (signAt x i u)
theorem ZnIts.but {b : Nat} {ts : List (Str × Tok)} {i k : Nat} {h h' : Heap} {c : Nat} (H : ZnIts b ts i k h) (hc : c < b ∨ b + ts.length ≤ c) (hs : Heap.SameBut c h h') : ZnIts b ts i k h' := fun j x hx => by
  have hj : j < ts.length := (List.getElem?_eq_some_iff.mp hx).1
  obtain ⟨o, ho, r⟩ := H j x hx
  exact ⟨o, hs.extBut _ _ (neN (by omega)) ho, r⟩
theorem refs_drop {b n k : Nat} (hk : k < n) : (refsFrom b n).zipIdx.drop k = (.ref (b + k), k) :: (refsFrom b n).zipIdx.drop (k + 1) := by
  have hl : k < ((refsFrom b n).zipIdx).length := by simp [hk]
  rw [List.drop_eq_getElem_cons hl]
  congr 1
  simp
theorem refs_dropN {b n k : Nat} (hk : k < n) : (refsFrom b n).drop k = .ref (b + k) :: (refsFrom b n).drop (k + 1) := by
  have hl : k < ((refsFrom b n)).length := by simp [hk]
  rw [List.drop_eq_getElem_cons hl]
  congr 1
  simp
section
variable {prog : Program} {w : World} {A : Around} {E : Value → Shared → Prop} {s : Shared}
theorem alive_any {a : Addr} {Q : Option Obj → Shared → Prop} (h : Q (s.heap.get? a) s) : wpAny (model prog w) A (loadIfAlive a) Q E s := fun _ _ _ => h
/-- one iterator goes on -/
theorem zn_draw {b : Nat} {ts : List (Str × Tok)} {i k m : Nat} {Q : Value → Shared → Prop} (hh : A.handled = none) (hm : ∀ x ∈ ts, x.1.cps.size = m) (hi : i < m) (hk : k < ts.length) (H : ZnIts b ts i k s.heap)
    (hQ : ∀ h' tk u, ZnIts b ts i (k + 1) h' → Heap.SameBut (b + k) s.heap h' → Q (signAt ts[k] i u) { s with heap := h', toks := tk }) : wpAny (model prog w) A (Builtin.SmallTypes.nextOf (.ref (b + k))) Q E s := by
  have hx : ts[k]? = some ts[k] := List.getElem?_eq_getElem hk
  have st := H k _ hx
  rw [if_neg (Nat.lt_irrefl k)] at st
  have hsz := hm _ (List.getElem_mem hk)
  refine (Draws.text hh (b + k) ts[k].1 ts[k].2).item i s _ _ (by omega) st fun v h' tk hv st' hs => ?_
  obtain ⟨c, u, hc, rfl⟩ := hv
  have e : ts[k].1.cps.getD i 0 = c := by rw [Array.getD_eq_getD_getElem?, hc]; rfl
  have z := hQ h' tk u (fun j x hj => ?_) hs
  · unfold signAt at z
    rw [e] at z
    exact z
  · by_cases hjk : j = k
    · subst hjk
      rw [hx] at hj
      cases hj
      rw [if_pos (Nat.lt_succ_self _)]
      exact st'
    · obtain ⟨o, ho, r⟩ := H j x hj
      refine ⟨o, hs.extBut _ _ (neN (by omega)) ho, ?_⟩
      by_cases hlt : j < k
      · rw [if_pos hlt] at r
        rw [if_pos (by omega)]
        exact r
      · rw [if_neg hlt] at r
        rw [if_neg (by omega)]
        exact r
theorem zipN_next_item {b TI TO z : Nat} {ts : List (Str × Tok)} {i m : Nat} {Q : Value → Shared → Prop} (hh : A.handled = none) (hTI : TI = b + ts.length) (hTO : TO = b + ts.length + 1) (hz : z = b + ts.length + 2) (h1 : 1 ≤ ts.length) (hm : ∀ x ∈ ts, x.1.cps.size = m) (hi : i < m) (hn : ts.length ≤ sizeLine)
    (st : ZnSt b TI TO z ts i s.heap)
    (hQ : ∀ h' tk (vs : List Value), ZnSt b TI TO z ts (i + 1) h' → vs.length = ts.length → ZnVals ts i ts.length vs → h'.get? s.heap.objs.size = some { cls := .type "tuple", data := .seq vs.toArray } → h'.objs.size = s.heap.objs.size + 1 →
      (∀ c o, ¬ (b ≤ c ∧ c ≤ z) → s.heap.get? c = some o → h'.get? c = some o) → Q (.ref s.heap.objs.size) { s with heap := h', toks := tk }) :
    wpAny (model prog w) A (Builtin.«zip.__next__» ⟨[.ref z], []⟩) (fun fin s' => ∃ v, fin = .done (.ret v) ∧ Q v s') E s := by
  obtain ⟨hp, g, d, tk0, os⟩ := s
  obtain ⟨⟨o0, f, ho, hZ⟩, hti, ⟨a, ha, hto⟩, hit⟩ := st
  have hTIz : TI ≠ z := by omega
  have hTOz : TO ≠ z := by omega
  have hTITO : TI ≠ TO := by omega
  show wpAny _ _ (field (.ref z) 2 >>= _) _ _ _
  refine wpAny_bind (wpAny_field hZ rfl (x := .bool false) rfl ?_)
  show wpAny _ _ (field (.ref z) 3 >>= _) _ _ _
  refine wpAny_bind (wpAny_field hZ rfl (x := .ref TI) rfl ?_)
  refine wpAny_bind (wpAny_seqItems hti rfl ?_)
  have he : (refsFrom b ts.length).toArray.isEmpty = false := by
    cases hl : ts.length with
    | zero => omega
    | succ n => unfold refsFrom; rw [List.range_succ]; simp
  dsimp only
  rw [if_neg (by rw [he]; exact Bool.false_ne_true)]
  have its0 : ZnIts b ts i 0 hp := fun j x hx => by
    rw [if_neg (Nat.not_lt_zero j)]
    exact hit j x hx
  have free : wpAny (model prog w) A (Builtin.SmallTypes.ownedTupleIsFree (.ref z)) (fun b1 s1 => ∃ h1 o1 f1, s1 = ⟨h1, g, d, tk0, os⟩ ∧ ZipCell h1 z TI TO o1 f1 ∧ (o1 = .none ∨ ∃ T : Nat, o1 = rawInt T) ∧ Heap.SameBut z hp h1) E ⟨hp, g, d, tk0, os⟩ := by
    unfold Builtin.SmallTypes.ownedTupleIsFree
    refine wpAny_bind (wpAny_field hZ rfl (x := o0) rfl ?_)
    rcases ho with rfl | ⟨T, rfl⟩
    · exact wpAny_pure ⟨hp, _, _, rfl, hZ, .inl rfl, Heap.SameBut.refl _ _⟩
    · show wpAny _ _ (loadIfAlive ((T : Int).toNat) >>= _) _ _ _
      rw [Int.toNat_natCast]
      refine wpAny_bind (alive_any ?_)
      cases hp.get? T with
      | none => exact wpAny_pure ⟨hp, _, _, rfl, hZ, .inr ⟨T, rfl⟩, Heap.SameBut.refl _ _⟩
      | some o =>
        simp only [Option.isNone_some, Bool.false_eq_true, if_false]
        refine wpAny_bind (wpAny_field hZ rfl (x := .bool f) rfl ?_)
        cases f with
        | true =>
          rw [if_neg (show ¬ ((Value.bool true != Value.bool true) = true) from Bool.false_ne_true)]
          exact wpAny_pure ⟨hp, _, _, rfl, hZ, .inr ⟨T, rfl⟩, Heap.SameBut.refl _ _⟩
        | false =>
          rw [if_pos (show (Value.bool false != Value.bool true) = true from rfl)]
          exact wpAny_bind (wpAny_setField_rec hZ (by simp) fun h2 hz2 hs2 => wpAny_pure ⟨h2, _, _, rfl, hz2, .inr ⟨T, rfl⟩, hs2⟩)
  refine wpAny_bind (wpAny_mono free (fun b1 s1 h => ?_) fun _ _ x => x)
  obtain ⟨h1, o1, f1, rfl, hZ1, ho1, hs1⟩ := h
  have hti1 := hs1.extBut _ _ hTIz hti
  have hto1 := hs1.extBut _ _ hTOz hto
  have its1 := its0.but (.inr (by omega)) hs1
  cases b1 with
  | true =>
    simp only [if_true]
    refine wpAny_bind (wpAny_rule ?_)
    refine wpAny_bind (wpAny_field hZ1 rfl (x := .ref TO) rfl ?_)
    refine wpAny_bind (wpAny_setField_rec hZ1 (by simp) fun g0 hz0 hs0 => ?_)
    replace hz0 : ZipCell g0 z TI TO .ellipsis f1 := hz0
    replace hs0 : Heap.SameBut z h1 g0 := hs0
    refine wpAny_bind ?_
    refine wpAny_forIn_list _ (fun rest c s' => c = (none, ()) ∧ ∃ k h' tk vs, k ≤ ts.length ∧ rest = ((refsFrom b ts.length).zipIdx).drop k ∧ s' = ⟨h', g, d, tk, os⟩ ∧ ZnIts b ts i k h' ∧ ZnVals ts i k vs ∧ vs.length = ts.length ∧
      h'.get? TO = some { cls := .type "tuple", data := .seq vs.toArray } ∧ ZipCell h' z TI TO .ellipsis f1 ∧ h'.objs.size = hp.objs.size ∧ (∀ c o, (¬ (b ≤ c ∧ c ≤ z) ∨ c = TI) → hp.get? c = some o → h'.get? c = some o)) _ ?_ ?_ _ _ ?_
    · rintro x rest c s' ⟨rfl, k, h', tk, vs, hk, hr, rfl, it', va', vl', to', z', sz', kp'⟩
      have hk : k < ts.length := by
        rcases Nat.lt_or_ge k ts.length with h | h
        · exact h
        · rw [List.drop_eq_nil_of_le (by simp; omega)] at hr
          cases hr
      rw [refs_drop hk] at hr
      obtain ⟨rfl, rfl⟩ := List.cons.inj hr
      refine wpAny_bind (wpAny_onRaise ?_)
      show wpAny _ _ (Builtin.SmallTypes.nextOf (.ref (b + k)) >>= _) _ _ _
      refine wpAny_bind (zn_draw hh hm hi hk it' fun h2 tk2 u it2 hs2 => wpAny_pure ?_)
      have hs2 : Heap.SameBut (b + k) h' h2 := hs2
      have to2 := hs2.extBut TO _ (neN (by omega)) to'
      have z2 := hs2.extBut z _ (neN (by omega)) z'
      dsimp only
      refine wpAny_bind (wpAny_seqItems (s := ⟨h2, g, d, tk2, os⟩) to2 rfl ?_)
      refine wpAny_bind ?_
      refine wpAny_updateSeq (s := ⟨h2, g, d, tk2, os⟩) to2 rfl ?_
      have to3 := Heap.get?_update_self (Obj.mapSeq (·.setIfInBounds k (signAt ts[k] i u))) to2 rfl
      have hs3 : Heap.SameBut TO h2 (h2.update TO (Obj.mapSeq (·.setIfInBounds k (signAt ts[k] i u)))) := Heap.SameBut.update ..
      generalize h2.update TO (Obj.mapSeq (·.setIfInBounds k (signAt ts[k] i u))) = h3 at to3 hs3 ⊢
      refine wpAny_bind (wpAny_letGo (wpAny_pure ⟨rfl, k + 1, h3, tk2, vs.set k (signAt ts[k] i u), hk, rfl, rfl, it2.but (.inr (by omega)) hs3, fun j x hj hx => ?_, by rw [List.length_set, vl'], ?_, hs3.extBut _ _ hTOz.symm z2, by rw [hs3.1, hs2.1, sz'], fun c o hc q => ?_⟩))
      · by_cases hjk : j = k
        · subst hjk
          rw [List.getElem?_eq_getElem hk] at hx
          cases hx
          exact ⟨u, by rw [List.getElem?_set_self (by omega)]⟩
        · obtain ⟨u', hu'⟩ := va' j x (by omega) hx
          exact ⟨u', by rw [List.getElem?_set_ne (by omega)]; exact hu'⟩
      · simpa [Obj.mapSeq] using to3
      · refine hs3.extBut _ _ ?_ (hs2.extBut _ _ ?_ (kp' c o hc q))
        · rcases hc with hc | rfl
          · exact fun q : (c : Nat) = TO => hc (by omega)
          · exact hTITO
        · rcases hc with hc | rfl
          · exact fun q : (c : Nat) = b + k => hc (by omega)
          · exact neN (by omega)
    · rintro c s' ⟨rfl, k, h', tk, vs, hk, hr, rfl, it', va', vl', to', z', sz', kp'⟩
      have hk : k = ts.length := by
        rcases Nat.lt_or_ge k ts.length with h | h
        · rw [refs_drop h] at hr
          cases hr
        · omega
      subst hk
      dsimp only
      refine wpAny_bind (wpAny_seqItems (s := ⟨h', g, d, tk, os⟩) to' rfl ?_)
      refine wpAny_bind (wpAny_newTuple ?_ (by simpa using by omega))
      show wpAny _ _ (Builtin.SmallTypes.ownedTupleHandOut (.ref z) (.ref h'.objs.size) >>= _) _ _ ⟨h'.push { cls := .type "tuple", data := .seq vs.toArray }, g, d, tk, os⟩
      refine wpAny_bind ?_
      unfold Builtin.SmallTypes.ownedTupleHandOut
      have hzlt : z < h'.objs.size := Heap.lt_size z'
      have z6 : ZipCell (h'.push { cls := .type "tuple", data := .seq vs.toArray }) z TI TO .ellipsis f1 := Heap.get?_push_of_some _ z'
      refine wpAny_bind (wpAny_setField_rec z6 (by simp) fun h7 z7 s7 => ?_)
      replace z7 : ZipCell h7 z TI TO (rawInt h'.objs.size) f1 := z7
      refine wpAny_setField_rec z7 (by simp) fun h8 z8 s8 => ?_
      replace z8 : ZipCell h8 z TI TO (rawInt h'.objs.size) false := z8
      replace s7 : Heap.SameBut z (h'.push { cls := .type "tuple", data := .seq vs.toArray }) h7 := s7
      replace s8 : Heap.SameBut z h7 h8 := s8
      have up : ∀ (c : Nat) o, c ≠ z → h'.get? c = some o → h8.get? c = some o := fun c o c1 e => s8.extBut _ _ c1 (s7.extBut _ _ c1 (Heap.get?_push_of_some _ e))
      have t8 : h8.get? h'.objs.size = some { cls := .type "tuple", data := .seq vs.toArray } := s8.extBut _ _ (Nat.ne_of_gt hzlt) (s7.extBut _ _ (Nat.ne_of_gt hzlt) (Heap.get?_push_size _ rfl))
      have q8 : h8.objs.size = h'.objs.size + 1 := by rw [s8.1, s7.1, Heap.size_push]
      rw [sz'] at t8 q8 z8
      refine wpAny_pure ⟨_, rfl, ?_⟩
      show Q (.ref h'.objs.size) ⟨h8, g, d, tk, os⟩
      rw [sz']
      refine hQ h8 tk vs ⟨⟨_, _, .inr ⟨_, rfl⟩, z8⟩, up _ _ hTIz (kp' TI _ (.inr rfl) hti), ⟨_, by simpa using vl', up _ _ hTOz to'⟩, fun j x hx => ?_⟩ vl' va' t8 q8 fun c o hc q => up c o (fun e => hc (by omega)) (kp' c o (.inl hc) q)
      have hj : j < ts.length := (List.getElem?_eq_some_iff.mp hx).1
      obtain ⟨o, ho, r⟩ := it' j x hx
      rw [if_pos hj] at r
      exact ⟨o, up _ _ (by omega) ho, r⟩
    · exact ⟨rfl, 0, g0, tk0, a.toList, Nat.zero_le _, rfl, rfl, its1.but (.inr (by omega)) hs0, fun j x hj => absurd hj (Nat.not_lt_zero j), by rw [Array.length_toList, ha], by rw [Array.toArray_toList]; exact hs0.extBut _ _ hTOz hto1, hz0, by rw [hs0.1, hs1.1], fun c o hc q => hs0.extBut _ _ (by rcases hc with hc | rfl; exact fun q : (c : Nat) = z => hc (by omega); exact hTIz) (hs1.extBut _ _ (by rcases hc with hc | rfl; exact fun q : (c : Nat) = z => hc (by omega); exact hTIz) q)⟩
  | false =>
    simp only [Bool.false_eq_true, if_false]
    refine wpAny_bind ?_
    rw [← Array.forIn_toList]
    refine wpAny_forIn_list _ (fun rest c s' => ∃ k h' tk vs, c = (none, List.toArray vs) ∧ k ≤ ts.length ∧ rest = (refsFrom b ts.length).drop k ∧ s' = ⟨h', g, d, tk, os⟩ ∧ ZnIts b ts i k h' ∧ ZnVals ts i k vs ∧ vs.length = k ∧
      ZipCell h' z TI TO o1 f1 ∧ h'.objs.size = hp.objs.size ∧ (∀ c o, (¬ (b ≤ c ∧ c ≤ z) ∨ c = TI ∨ c = TO) → hp.get? c = some o → h'.get? c = some o)) _ ?_ ?_ _ _ ?_
    · rintro x rest c s' ⟨k, h', tk, vs, rfl, hk, hr, rfl, it', va', vl', z', sz', kp'⟩
      have hk : k < ts.length := by
        rcases Nat.lt_or_ge k ts.length with h | h
        · exact h
        · rw [List.drop_eq_nil_of_le (by simp; omega)] at hr
          cases hr
      rw [refs_dropN hk] at hr
      obtain ⟨rfl, rfl⟩ := List.cons.inj hr
      refine wpAny_bind (wpAny_holding ?_)
      show wpAny _ _ (Builtin.SmallTypes.nextOf (.ref (b + k)) >>= _) _ _ _
      refine wpAny_bind (zn_draw hh hm hi hk it' fun h2 tk2 u it2 hs2 => wpAny_pure ?_)
      have hs2 : Heap.SameBut (b + k) h' h2 := hs2
      have z2 := hs2.extBut z _ (neN (by omega)) z'
      dsimp only
      refine wpAny_pure ⟨k + 1, h2, tk2, vs ++ [signAt ts[k] i u], by simp, hk, rfl, rfl, it2, fun j x hj hx => ?_, by rw [List.length_append, vl']; rfl, z2, by rw [hs2.1, sz'], fun c o hc q => ?_⟩
      · by_cases hjk : j = k
        · subst hjk
          rw [List.getElem?_eq_getElem hk] at hx
          cases hx
          exact ⟨u, by rw [List.getElem?_append_right (by omega), vl', Nat.sub_self]; rfl⟩
        · obtain ⟨u', hu'⟩ := va' j x (by omega) hx
          exact ⟨u', by rw [List.getElem?_append_left (by omega)]; exact hu'⟩
      · refine hs2.extBut _ _ ?_ (kp' c o hc q)
        rcases hc with hc | rfl | rfl
        · exact fun q : (c : Nat) = b + k => hc (by omega)
        · exact neN (by omega)
        · exact neN (by omega)
    · rintro c s' ⟨k, h', tk, vs, rfl, hk, hr, rfl, it', va', vl', z', sz', kp'⟩
      have hk : k = ts.length := by
        rcases Nat.lt_or_ge k ts.length with h | h
        · rw [refs_dropN h] at hr
          cases hr
        · omega
      subst hk
      dsimp only
      refine wpAny_bind (wpAny_newTuple ?_ (by simpa using by omega))
      have hzlt : z < h'.objs.size := Heap.lt_size z'
      refine wpAny_pure ⟨_, rfl, ?_⟩
      show Q (.ref h'.objs.size) ⟨h'.push { cls := .type "tuple", data := .seq vs.toArray }, g, d, tk, os⟩
      have up : ∀ (c : Nat) o, h'.get? c = some o → (h'.push { cls := .type "tuple", data := .seq vs.toArray }).get? c = some o := fun c o e => Heap.get?_push_of_some _ e
      have t8 : (h'.push { cls := .type "tuple", data := .seq vs.toArray }).get? h'.objs.size = some { cls := .type "tuple", data := .seq vs.toArray } := Heap.get?_push_size _ rfl
      have q8 : (h'.push { cls := .type "tuple", data := .seq vs.toArray }).objs.size = h'.objs.size + 1 := Heap.size_push ..
      rw [sz'] at t8 q8 ⊢
      refine hQ _ tk vs ⟨⟨_, _, ho1, up _ _ z'⟩, up _ _ (kp' TI _ (.inr (.inl rfl)) hti), ⟨_, ha, up _ _ (kp' TO _ (.inr (.inr rfl)) hto)⟩, fun j x hx => ?_⟩ vl' va' t8 q8 fun c o hc q => up c o (kp' c o (.inl hc) q)
      have hj : j < ts.length := (List.getElem?_eq_some_iff.mp hx).1
      obtain ⟨o, ho, r⟩ := it' j x hx
      rw [if_pos hj] at r
      exact ⟨o, up _ _ ho, r⟩
    · exact ⟨0, h1, tk0, [], rfl, Nat.zero_le _, by simp, rfl, its1, fun j x hj => absurd hj (Nat.not_lt_zero j), rfl, hZ1, hs1.1, fun c o hc q => hs1.extBut _ _ (by rcases hc with hc | rfl | rfl; exact fun q : (c : Nat) = z => hc (by omega); exact hTIz; exact hTOz) q⟩
theorem zipN_next_end {b TI TO z : Nat} {ts : List (Str × Tok)} {m : Nat} {Q : Fin → Shared → Prop} (hh : A.handled = none) (hTI : TI = b + ts.length) (hTO : TO = b + ts.length + 1) (hz : z = b + ts.length + 2) (h1 : 1 ≤ ts.length) (hm : ∀ x ∈ ts, x.1.cps.size = m)
    (st : ZnSt b TI TO z ts m s.heap)
    (hE : ∀ h' tk e, (∀ c o, ¬ (b ≤ c ∧ c ≤ z) → s.heap.get? c = some o → h'.get? c = some o) → (∃ o, h'.get? e = some o ∧ o.cls = .type "StopIteration") → E (.ref e) { s with heap := h', toks := tk }) :
    wpAny (model prog w) A (Builtin.«zip.__next__» ⟨[.ref z], []⟩) Q E s := by
  obtain ⟨hp, g, d, tk0, os⟩ := s
  obtain ⟨⟨o0, f, ho, hZ⟩, hti, ⟨a, ha, hto⟩, hit⟩ := st
  have hTIz : TI ≠ z := by omega
  have hTOz : TO ≠ z := by omega
  show wpAny _ _ (field (.ref z) 2 >>= _) _ _ _
  refine wpAny_bind (wpAny_field hZ rfl (x := .bool false) rfl ?_)
  show wpAny _ _ (field (.ref z) 3 >>= _) _ _ _
  refine wpAny_bind (wpAny_field hZ rfl (x := .ref TI) rfl ?_)
  refine wpAny_bind (wpAny_seqItems hti rfl ?_)
  have hcons : refsFrom b ts.length = .ref b :: (refsFrom b ts.length).drop 1 := by
    have := refs_dropN (b := b) (n := ts.length) (k := 0) h1
    simpa using this
  have he : (refsFrom b ts.length).toArray.isEmpty = false := by rw [hcons]; rfl
  dsimp only
  rw [if_neg (by rw [he]; exact Bool.false_ne_true)]
  have free : wpAny (model prog w) A (Builtin.SmallTypes.ownedTupleIsFree (.ref z)) (fun b1 s1 => ∃ h1 o1 f1, s1 = ⟨h1, g, d, tk0, os⟩ ∧ ZipCell h1 z TI TO o1 f1 ∧ Heap.SameBut z hp h1) E ⟨hp, g, d, tk0, os⟩ := by
    unfold Builtin.SmallTypes.ownedTupleIsFree
    refine wpAny_bind (wpAny_field hZ rfl (x := o0) rfl ?_)
    rcases ho with rfl | ⟨T, rfl⟩
    · exact wpAny_pure ⟨hp, _, _, rfl, hZ, Heap.SameBut.refl _ _⟩
    · show wpAny _ _ (loadIfAlive ((T : Int).toNat) >>= _) _ _ _
      rw [Int.toNat_natCast]
      refine wpAny_bind (alive_any ?_)
      cases hp.get? T with
      | none => exact wpAny_pure ⟨hp, _, _, rfl, hZ, Heap.SameBut.refl _ _⟩
      | some o =>
        simp only [Option.isNone_some, Bool.false_eq_true, if_false]
        refine wpAny_bind (wpAny_field hZ rfl (x := .bool f) rfl ?_)
        cases f with
        | true =>
          rw [if_neg (show ¬ ((Value.bool true != Value.bool true) = true) from Bool.false_ne_true)]
          exact wpAny_pure ⟨hp, _, _, rfl, hZ, Heap.SameBut.refl _ _⟩
        | false =>
          rw [if_pos (show (Value.bool false != Value.bool true) = true from rfl)]
          exact wpAny_bind (wpAny_setField_rec hZ (by simp) fun h2 hz2 hs2 => wpAny_pure ⟨h2, _, _, rfl, hz2, hs2⟩)
  obtain ⟨x0, hx0⟩ : ∃ x0, ts[0]? = some x0 := ⟨ts[0], List.getElem?_eq_getElem h1⟩
  have hsz : x0.1.cps.size = m := hm x0 (List.mem_of_getElem? hx0)
  have hi0 : hp.IsStrIter b (strIterType x0.1) x0.1 x0.2 m := hit 0 x0 hx0
  have done : ∀ {Q : Value → Shared → Prop} {E : Value → Shared → Prop} {h0 : Heap}, Heap.SameBut z hp h0 → (∀ h' e, Heap.ExtBut b h0 h' → (∃ o, h'.get? e = some o ∧ o.cls = .type "StopIteration") → E (.ref e) ⟨h', g, d, tk0, os⟩) →
      wpAny (model prog w) A (Builtin.SmallTypes.nextOf (.ref b)) Q E ⟨h0, g, d, tk0, os⟩ := fun hs q => (Draws.text hh b x0.1 x0.2).done ⟨_, g, d, tk0, os⟩ _ _ (by rw [hsz]; obtain ⟨o, ho, r⟩ := hi0; exact ⟨o, hs.extBut _ _ (neN (by omega)) ho, r⟩) q
  refine wpAny_bind (wpAny_mono free (fun b1 s1 h => ?_) fun _ _ x => x)
  obtain ⟨h1, o1, f1, rfl, hZ1, hs1⟩ := h
  cases b1 with
  | true =>
    simp only [if_true]
    refine wpAny_bind (wpAny_rule ?_)
    refine wpAny_bind (wpAny_field hZ1 rfl (x := .ref TO) rfl ?_)
    refine wpAny_bind (wpAny_setField_rec hZ1 (by simp) fun g0 hz0 hs0 => ?_)
    replace hz0 : ZipCell g0 z TI TO .ellipsis f1 := hz0
    replace hs0 : Heap.SameBut z h1 g0 := hs0
    refine wpAny_bind ?_
    have hzi : (refsFrom b ts.length).zipIdx = (.ref b, 0) :: ((refsFrom b ts.length).zipIdx).drop 1 := by
      have := refs_drop (b := b) (n := ts.length) (k := 0) (by omega)
      simpa using this
    rw [hzi, List.forIn_cons]
    refine wpAny_bind (wpAny_bind (wpAny_onRaise ?_))
    show wpAny _ _ (Builtin.SmallTypes.nextOf (.ref b) >>= _) _ _ ⟨g0, g, d, tk0, os⟩
    have hs01 : Heap.SameBut z hp g0 := ⟨by rw [hs0.1, hs1.1], fun c hc => (hs0.2 c hc).trans (hs1.2 c hc)⟩
    refine wpAny_bind (done hs01 fun q e hq he => ?_)
    obtain ⟨oe, hoe, hce⟩ := he
    have hzq : ZipCell q z TI TO .ellipsis f1 := hq _ _ (neN (by omega)) hz0
    have hez : e ≠ z := fun x => by subst x; rw [hzq] at hoe; cases hoe; simp at hce
    refine wpAny_setField_rec (s := ⟨q, g, d, tk0, os⟩) hzq (by simp) fun q' _ hq' => ?_
    replace hq' : Heap.SameBut z q q' := hq'
    exact hE q' tk0 e (fun c o hc x => hq'.extBut _ _ (fun q : (c : Nat) = z => hc (by omega)) (hq _ _ (fun q : (c : Nat) = b => hc (by omega)) (hs01.extBut _ _ (fun q : (c : Nat) = z => hc (by omega)) x))) ⟨oe, hq'.extBut _ _ hez hoe, hce⟩
  | false =>
    simp only [Bool.false_eq_true, if_false]
    refine wpAny_bind ?_
    rw [← Array.forIn_toList, show (refsFrom b ts.length).toArray.toList = refsFrom b ts.length from rfl, hcons, List.forIn_cons]
    refine wpAny_bind (wpAny_bind (wpAny_holding ?_))
    show wpAny _ _ (Builtin.SmallTypes.nextOf (.ref b) >>= _) _ _ ⟨h1, g, d, tk0, os⟩
    refine wpAny_bind (done hs1 fun q e hq he => ?_)
    exact hE q tk0 e (fun c o hc x => hq _ _ (fun q : (c : Nat) = b => hc (by omega)) (hs1.extBut _ _ (fun q : (c : Nat) = z => hc (by omega)) x)) he
theorem pyNext_zipN_item {b TI TO z : Nat} {ts : List (Str × Tok)} {i m : Nat} {Q : Option Value → Shared → Prop} (hh : A.in1.handled = none) (hTI : TI = b + ts.length) (hTO : TO = b + ts.length + 1) (hz : z = b + ts.length + 2) (h1 : 1 ≤ ts.length) (hm : ∀ x ∈ ts, x.1.cps.size = m) (hi : i < m) (hn : ts.length ≤ sizeLine)
    (st : ZnSt b TI TO z ts i s.heap)
    (hQ : ∀ h' tk (vs : List Value), ZnSt b TI TO z ts (i + 1) h' → vs.length = ts.length → ZnVals ts i ts.length vs → h'.get? s.heap.objs.size = some { cls := .type "tuple", data := .seq vs.toArray } → h'.objs.size = s.heap.objs.size + 1 →
      (∀ c o, ¬ (b ≤ c ∧ c ≤ z) → s.heap.get? c = some o → h'.get? c = some o) → Q (some (.ref s.heap.objs.size)) { s with heap := h', toks := tk }) :
    wpAny (model prog w) A (pyNext (.ref z)) Q E s := by
  have hT : s.TypeIs (.ref z) "zip" := by obtain ⟨o0, f, _, hZ⟩ := st.zip; exact ⟨_, hZ, rfl⟩
  unfold pyNext
  exact wpAny_bind (wpAny_attempt (wpAny_callSpecial?_slot (name := Str.ofString "__next__") hT F.slot_zip_next
    (wpAny_call_entry F.slot_zip_next hT F.entry_zip_next
      (zipN_next_item hh hTI hTO hz h1 hm hi hn st fun h' tk vs a1 a2 a3 a4 a5 a6 => wpAny_pure (hQ h' tk vs a1 a2 a3 a4 a5 a6)) (F.args_zip_next_1 _))))
theorem pyNext_zipN_end {b TI TO z : Nat} {ts : List (Str × Tok)} {m : Nat} {Q : Option Value → Shared → Prop} (hh : A.in1.handled = none) (hTI : TI = b + ts.length) (hTO : TO = b + ts.length + 1) (hz : z = b + ts.length + 2) (h1 : 1 ≤ ts.length) (hm : ∀ x ∈ ts, x.1.cps.size = m)
    (st : ZnSt b TI TO z ts m s.heap)
    (hQ : ∀ h' tk, (∀ c o, ¬ (b ≤ c ∧ c ≤ z) → s.heap.get? c = some o → h'.get? c = some o) → Q none { s with heap := h', toks := tk }) : wpAny (model prog w) A (pyNext (.ref z)) Q E s := by
  have hT : s.TypeIs (.ref z) "zip" := by obtain ⟨o0, f, _, hZ⟩ := st.zip; exact ⟨_, hZ, rfl⟩
  unfold pyNext
  refine wpAny_bind (wpAny_attempt (wpAny_callSpecial?_slot (name := Str.ofString "__next__") hT F.slot_zip_next
    (wpAny_call_entry F.slot_zip_next hT F.entry_zip_next (zipN_next_end hh hTI hTO hz h1 hm st fun h' tk e hk he => ?_) (F.args_zip_next_1 _))))
  obtain ⟨o, ho, hc⟩ := he
  refine wpAny_bind (wpAny_isInstance (T := "StopIteration") (b := true) ⟨o, ho, hc⟩ isSubtype_stop ?_)
  exact wpAny_pure (hQ _ _ hk)
end
end Qt
/-! zip(*xs): how it begins; a for over it; the call with a star. -/
namespace Qt
open PySem PySem.Spec PyProof.Rows L2 Evl
theorem zip_typeCall_n (vs : List Value) : checkTypeCall "zip" ⟨vs, []⟩ = pure () := by kernel_rfl
theorem zip_newCall_n : ∀ (vs : List Value), checkBuiltinCall "zip.__new__" ⟨.type "zip" :: vs, []⟩ = pure ()
  | [] => by kernel_rfl
  | [a] => by kernel_rfl
  | a :: b :: vs => by kernel_rfl
theorem args_object_init_n (obj : Value) : ∀ (vs : List Value), argsOk "object.__init__" ⟨obj :: vs, []⟩
  | [] => by unfold argsOk; kernel_rfl
  | [a] => by unfold argsOk; kernel_rfl
  | a :: b :: vs => by unfold argsOk; kernel_rfl
abbrev strsOf (ts : List (Str × Tok)) : List Value := ts.map fun x => .str x.1 x.2
/-- a new zip over texts -/
def ZnNew (ts : List (Str × Tok)) (h h' : Heap) : Prop := ZnSt h.objs.size (h.objs.size + ts.length) (h.objs.size + ts.length + 1) (h.objs.size + ts.length + 2) ts 0 h' ∧
  h'.objs.size = h.objs.size + ts.length + 3 ∧ ∀ c o, h.get? c = some o → h'.get? c = some o
section
variable {prog : Program} {w : World} {A : Around} {E : Value → Shared → Prop} {s : Shared}
theorem iterAll_texts (ts : List (Str × Tok)) {Q : List Value → Shared → Prop} {h0 : Heap} {g : Array GenState} {d : Drawn} {tk : Nat} {os : OsState}
    (hQ : ∀ h', h'.objs.size = h0.objs.size + ts.length → (∀ (k : Nat) (x : Str × Tok), ts[k]? = some x → h'.IsStrIter (h0.objs.size + k) (strIterType x.1) x.1 x.2 0) → (∀ c o, h0.get? c = some o → h'.get? c = some o) → Q (refsFrom h0.objs.size ts.length) ⟨h', g, d, tk, os⟩) :
    wpAny (model prog w) A (Builtin.SmallTypes.iterAll (strsOf ts)) Q E ⟨h0, g, d, tk, os⟩ := by
  unfold Builtin.SmallTypes.iterAll
  refine wpAny_bind ?_
  refine wpAny_forIn_list _ (fun rest c s' => ∃ k h', c = (refsFrom h0.objs.size k).toArray ∧ k ≤ ts.length ∧ rest = (strsOf ts).drop k ∧ s' = ⟨h', g, d, tk, os⟩ ∧ h'.objs.size = h0.objs.size + k ∧ (∀ (j : Nat) (x : Str × Tok), j < k → ts[j]? = some x → h'.IsStrIter (h0.objs.size + j) (strIterType x.1) x.1 x.2 0) ∧
    (∀ c o, h0.get? c = some o → h'.get? c = some o)) _ ?_ ?_ _ _ ?_
  · rintro x rest c s' ⟨k, h', rfl, hk, hr, rfl, sz, it, kp⟩
    have hk : k < ts.length := by
      rcases Nat.lt_or_ge k ts.length with h | h
      · exact h
      · rw [List.drop_eq_nil_of_le (by simpa using h)] at hr
        cases hr
    have hl : k < (strsOf ts).length := by simpa using hk
    rw [List.drop_eq_getElem_cons hl] at hr
    obtain ⟨rfl, rfl⟩ := List.cons.inj hr
    rw [show (strsOf ts)[k] = .str ts[k].1 ts[k].2 by simp]
    refine wpAny_bind (wpAny_holding (wpAny_pyIter_strU ?_))
    refine wpAny_pure ⟨k + 1, _, ?_, hk, rfl, rfl, by rw [Heap.size_push, sz]; omega, fun j x hj hx => ?_, fun c o q => Heap.get?_push_of_some _ (kp c o q)⟩
    · unfold refsFrom
      rw [List.range_succ, List.map_append]
      simp [sz]
    · by_cases hjk : j = k
      · subst hjk
        rw [List.getElem?_eq_getElem hk] at hx
        cases hx
        rw [← sz]
        exact ⟨_, Heap.get?_push_size _ rfl, rfl, rfl⟩
      · obtain ⟨o, ho, r⟩ := it j x (by omega) hx
        exact ⟨o, Heap.get?_push_of_some _ ho, r⟩
  · rintro c s' ⟨k, h', rfl, hk, hr, rfl, sz, it, kp⟩
    have hk : k = ts.length := by
      rcases Nat.lt_or_ge k ts.length with h | h
      · have hl : k < (strsOf ts).length := by simpa using h
        rw [List.drop_eq_getElem_cons hl] at hr
        cases hr
      · omega
    subst hk
    exact wpAny_pure (hQ h' sz (fun j x hx => it j x (List.getElem?_eq_some_iff.mp hx).1 hx) kp)
  · exact ⟨0, h0, rfl, Nat.zero_le _, rfl, rfl, rfl, fun j x hj => absurd hj (Nat.not_lt_zero j), fun _ _ q => q⟩
theorem meets_zip_newN (ts : List (Str × Tok)) (hn : ts.length ≤ sizeLine) :
    Meets (Builtin.«zip.__new__» ⟨.type "zip" :: strsOf ts, []⟩) (fun _ R s => ∀ h', ZnNew ts s.heap h' → R (.ok (.ret (.ref (s.heap.objs.size + ts.length + 2)))) { s with heap := h' }) :=
  .of_wp fun prog w A R s h => by
    obtain ⟨hp, g, d, tk, os⟩ := s
    have hsub := sub_zip
    have nc : ∀ {A' : Around} {E : Value → Shared → Prop} {Q : Value × List Value → Shared → Prop} {s : Shared}, Q (.type "zip", strsOf ts) s → wpAny (model prog w) A' (Builtin.SmallTypes.newClass "zip" ⟨.type "zip" :: strsOf ts, []⟩) Q E s := fun q => by
      unfold Builtin.SmallTypes.newClass
      wp_walk
      exact q
    unfold Builtin.«zip.__new__»
    refine wpAny_bind (nc ?_)
    show wpAny (model prog w) A.in1 (Builtin.SmallTypes.iterAll (strsOf ts) >>= _) _ _ _
    refine wpAny_bind (iterAll_texts ts fun h1 sz it kp => ?_)
    refine wpAny_bind (wpAny_newTuple ?_ (by simpa using hn))
    refine wpAny_bind (wpAny_newTuple ?_ (by simpa using hn))
    refine wpAny_bind (m := Builtin.SmallTypes.newRecord _ _) ?_
    unfold Builtin.SmallTypes.newRecord
    refine wpAny_newObj_type ?_ (by unfold Builtin.SmallTypes.ownedTupleFields; first | rfl | (simp [sizeOk] <;> decide) | (show (5 : Nat) ≤ _; decide))
    refine wpAny_pure ⟨_, rfl, ?_⟩
    have e1 : (h1.push { cls := .type "tuple", data := .seq (refsFrom hp.objs.size ts.length).toArray }).objs.size = hp.objs.size + ts.length + 1 := by rw [Heap.size_push, sz]
    have e2 : ((h1.push { cls := .type "tuple", data := .seq (refsFrom hp.objs.size ts.length).toArray }).push { cls := .type "tuple", data := .seq (List.map (fun x => Value.none) (refsFrom hp.objs.size ts.length)).toArray }).objs.size = hp.objs.size + ts.length + 2 := by rw [Heap.size_push, e1]
    have g1 := Heap.get?_push_size h1 (o := { cls := .type "tuple", data := .seq (refsFrom hp.objs.size ts.length).toArray }) rfl
    have g2 := Heap.get?_push_size (h1.push { cls := .type "tuple", data := .seq (refsFrom hp.objs.size ts.length).toArray }) (o := { cls := .type "tuple", data := .seq (List.map (fun x => Value.none) (refsFrom hp.objs.size ts.length)).toArray }) rfl
    rw [sz] at g1
    rw [e1] at g2
    have z := h ((((h1.push { cls := .type "tuple", data := .seq (refsFrom hp.objs.size ts.length).toArray }).push { cls := .type "tuple", data := .seq (List.map (fun x => Value.none) (refsFrom hp.objs.size ts.length)).toArray })).push { cls := .type "zip", data := .fields #[.none, .bool false, .bool false, .ref (hp.objs.size + ts.length), .ref (hp.objs.size + ts.length + 1)] })
      ⟨⟨⟨.none, false, .inl rfl, by rw [← e2]; exact Heap.get?_push_size _ rfl⟩, Heap.get?_push_of_some _ (Heap.get?_push_of_some _ g1), ⟨_, by simp, Heap.get?_push_of_some _ g2⟩, fun k x hx => ?_⟩, by rw [Heap.size_push, e2], fun c o q => Heap.get?_push_of_some _ (Heap.get?_push_of_some _ (Heap.get?_push_of_some _ (kp c o q)))⟩
    · show R (.ok (.ret (.ref (((h1.push { cls := .type "tuple", data := .seq (refsFrom hp.objs.size ts.length).toArray }).push { cls := .type "tuple", data := .seq (List.map (fun x => Value.none) (refsFrom hp.objs.size ts.length)).toArray }).objs.size)))) ⟨Heap.push _ { cls := .type "zip", data := .fields #[.none, .bool false, .bool false, .ref h1.objs.size, .ref (h1.push { cls := .type "tuple", data := .seq (refsFrom hp.objs.size ts.length).toArray }).objs.size] }, g, d, tk, os⟩
      rw [e2, e1, sz]
      exact z
    · obtain ⟨o, ho, r⟩ := it k x hx
      exact ⟨o, Heap.get?_push_of_some _ (Heap.get?_push_of_some _ (Heap.get?_push_of_some _ ho)), r⟩
theorem zip_beginsN {ts : List (Str × Tok)} {Q : Value → Shared → Prop} (hn : ts.length ≤ sizeLine) (h : ∀ h', ZnNew ts s.heap h' → Q (.ref (s.heap.objs.size + ts.length + 2)) { s with heap := h' }) :
    wpAny (model prog w) A (call (.type "zip") (strsOf ts)) Q E s :=
  callType_new F.called_zip (by decide) (zip_typeCall_n _) (zip_newCall_n _) (fun obj => args_object_init_n obj _) F.entry_zip_new
    (meets_zip_newN ts hn) fun h' zn => ⟨by obtain ⟨⟨⟨o0, f, _, hZ⟩, _, _, _⟩, _⟩ := zn; exact ⟨_, hZ, rfl⟩, h h' zn⟩
end
/-- the signs of many texts of one length, side by side, in a new tuple each -/
def Itzn (xs : List Str) (m : Nat) : It := ⟨fun i _ => i < m, fun i H v H' => ∃ T : Addr, v = .ref T ∧ H T = none ∧ H' = upd H T (.tup (xs.map fun x => .str ⟨#[x.cps.getD i 0]⟩)), fun i _ => i = m⟩
abbrev spanOf (b n : Nat) : List Addr := (List.range n).map fun k => b + k
theorem span_mem {b n c : Nat} : c ∈ spanOf b n ↔ b ≤ c ∧ c < b + n := by
  unfold spanOf
  rw [List.mem_map]
  exact ⟨fun ⟨k, h, e⟩ => by have := List.mem_range.mp h; omega, fun h => ⟨c - b, List.mem_range.mpr (by omega), by omega⟩⟩
theorem ZnSt.at {b TI TO z : Nat} {ts : List (Str × Tok)} {i : Nat} {h : Heap} (hTI : TI = b + ts.length) (hTO : TO = b + ts.length + 1) (hz : z = b + ts.length + 2) (S : ZnSt b TI TO z ts i h) {c : Nat} (hc : c ∈ spanOf b (ts.length + 3)) : ∃ o, h.get? c = some o ∧ ∀ v, o.data ≠ .cell v := by
  have := span_mem.mp hc
  by_cases h1 : c = z
  · obtain ⟨o0, f, _, q⟩ := S.zip
    rw [h1]
    exact ⟨_, q, fun v x => nomatch x⟩
  by_cases h2 : c = TO
  · obtain ⟨a, _, q⟩ := S.to
    rw [h2]
    exact ⟨_, q, fun v x => nomatch x⟩
  by_cases h3 : c = TI
  · rw [h3]
    exact ⟨_, S.ti, fun v x => nomatch x⟩
  have hk : c - b < ts.length := by omega
  obtain ⟨o, ho, _, hd⟩ := S.its (c - b) _ (List.getElem?_eq_getElem hk)
  rw [show b + (c - b) = c by omega] at ho
  exact ⟨o, ho, fun v x => by rw [hd] at x; cases x⟩
theorem turn_zipN {P : Program} {w : World} {K : PySem.W.Frag} {nm : Str} {p : Pos} {ts : List (Str × Tok)} {m b TI TO z : Nat} (hTI : TI = b + ts.length) (hTO : TO = b + ts.length + 1) (hz : z = b + ts.length + 2) (h1 : 1 ≤ ts.length) (hm : ∀ x ∈ ts, x.1.cps.size = m) (hn : ts.length ≤ sizeLine) :
    Turn P w K (.Name nm p) (Itzn (ts.map Prod.fst) m) (spanOf b (ts.length + 3)) z (fun i h => ZnSt b TI TO z ts i h) where
  mem := span_mem.mpr (by omega)
  obj := fun i h st c hc => st.at hTI hTO hz hc
  keep := fun i h h' st k => by
    have mem : ∀ c : Nat, b ≤ c → c < b + (ts.length + 3) → ∀ o, h.get? c = some o → h'.get? c = some o := fun c h1 h2 o q => k c (span_mem.mpr ⟨h1, h2⟩) o q
    obtain ⟨⟨o0, f, ho, hZ⟩, hti, ⟨a, ha, hto⟩, hit⟩ := st
    refine ⟨⟨o0, f, ho, mem z (by omega) (by omega) _ hZ⟩, mem TI (by omega) (by omega) _ hti, ⟨a, ha, mem TO (by omega) (by omega) _ hto⟩, fun j x hx => ?_⟩
    have hj : j < ts.length := (List.getElem?_eq_some_iff.mp hx).1
    obtain ⟨o, ho, r⟩ := hit j x hx
    exact ⟨o, mem (b + j) (by omega) (by omega) _ ho, r⟩
  item := by
    intro X hP hw hK hc i pins s σ H E I hf st hg
    subst hP hw hK
    have hi : i < m := hg
    have live : ∀ c ∈ spanOf b (ts.length + 3), c < s.heap.objs.size := fun c hc => by
      obtain ⟨o, q, _⟩ := st.at hTI hTO hz hc
      exact Heap.lt_size q
    refine pyNext_zipN_item (I.ok.hd hc) hTI hTO hz h1 hm hi hn st fun h' tk vs st' hvl hvs ht hsz hk => ?_
    refine ⟨.ref s.heap.objs.size, rfl, ?_⟩
    refine wpAny_pure ?_
    have hk' : ∀ c o, c ∉ spanOf b (ts.length + 3) → s.heap.get? c = some o → h'.get? c = some o := fun c o hc q => hk c o (fun z => hc (span_mem.mpr (by omega))) q
    have hv : Vals ((ts.map Prod.fst).map fun x => V.str ⟨#[x.cps.getD i 0]⟩) vs := by
      have : ∀ (k : Nat) (ts' : List (Str × Tok)) (vs' : List Value), ts.drop k = ts' → vs.drop k = vs' → Vals ((ts'.map Prod.fst).map fun x => V.str ⟨#[x.cps.getD i 0]⟩) vs' := fun k ts' => by
        induction ts' generalizing k with
        | nil =>
          intro vs' e1 e2
          have : ts.length ≤ k := List.drop_eq_nil_iff.mp e1
          rw [List.drop_eq_nil_of_le (by omega)] at e2
          subst e2
          exact .nil
        | cons x ts' ih =>
          intro vs' e1 e2
          have hkl : k < ts.length := by
            rcases Nat.lt_or_ge k ts.length with h | h
            · exact h
            · rw [List.drop_eq_nil_of_le h] at e1
              cases e1
          rw [List.drop_eq_getElem_cons hkl] at e1
          have e3 := (List.cons.inj e1).2
          obtain rfl := (List.cons.inj e1).1
          rw [List.drop_eq_getElem_cons (by omega)] at e2
          subst e2
          obtain ⟨u, hu⟩ := hvs k _ hkl (List.getElem?_eq_getElem hkl)
          rw [List.getElem?_eq_getElem (by omega)] at hu
          refine .cons ⟨u, Option.some.inj hu⟩ (ih (k + 1) _ e3 rfl)
      exact this 0 ts vs rfl rfl
    have new : ObjOk X.prog X.w (upd H s.heap.objs.size (.tup ((ts.map Prod.fst).map fun x => V.str ⟨#[x.cps.getD i 0]⟩))) h' s.heap.objs.size (.tup ((ts.map Prod.fst).map fun x => V.str ⟨#[x.cps.getD i 0]⟩)) :=
      ⟨by rw [List.length_map, List.length_map]; exact hn, vs, hv, ⟨_, ht, rfl, _, rfl⟩⟩
    have I1 := I.turnedNew (t' := tk) (ch := spanOf b (ts.length + 3)) (fun c o hb q => hk' c o hb q) hf (Nat.le_refl _) new
    refine ⟨.ref s.heap.objs.size, _, I1, rfl, ⟨_, rfl, I.hok.fresh (Nat.le_refl _), rfl⟩, st', fun c hc => ?_⟩
    rw [upd_ne (Nat.ne_of_lt (live c hc))]
    exact (hf c hc).1
  done := by
    intro X hP hw hK hc i pins s σ H E I hf st hg
    subst hP hw hK
    have hi : i = m := hg
    subst hi
    exact pyNext_zipN_end (I.ok.hd hc) hTI hTO hz h1 hm st fun h' tk hk => ⟨rfl, I.turnedL (t' := tk) (ch := spanOf b (ts.length + 3)) (fun c o hb q => hk c o (fun z => hb (span_mem.mpr (by omega))) q) hf⟩
  self := fun A i s Q E st h => by
    obtain ⟨o0, f, _, hZ⟩ := st.zip
    have hT : s.TypeIs (.ref z) "zip" := ⟨_, hZ, rfl⟩
    refine wpAny_pyIter_slot hT F.slot_zip_iter (wpAny_call_entry F.slot_zip_iter hT F.entry_zip_iter ?_ (F.args_zip_iter_1 _))
    show wpAny _ _ (ret (.ref z)) _ _ s
    exact wpAny_pure ⟨_, rfl, "zip", _, hT, F.slot_zip_next.lookup, h⟩
/-- zip(*e), e a list of texts -/
def iZipN (K : PySem.W.Frag) (te : TE) : TI := fun σ H R => te σ H fun y H1 => ∃ (a : Addr) (xs : List Str) (m : Nat), y = .ref a ∧ SqL K H1 a (xs.map V.str) ∧ 1 ≤ xs.length ∧ (∀ x ∈ xs, x.cps.size = m) ∧ R (Itzn xs m) H1
theorem strs_splitT : ∀ {xs : List Str} {us : List Value}, Vals (xs.map V.str) us → ∃ ts : List (Str × Tok), ts.map Prod.fst = xs ∧ us = strsOf ts
  | [], _, .nil => ⟨[], rfl, rfl⟩
  | x :: xs, _, .cons ⟨t, e⟩ r => by
    obtain ⟨ts, h1, h2⟩ := strs_splitT r
    subst e h1 h2
    exact ⟨(x, t) :: ts, rfl, rfl⟩
theorem pi_zipN {X : Cx} {e : Expr} {te : TE} {p p2 pos np : Pos} {nm : Str} (hc : X.calm = true) (hg : Gl X "zip") (hm : X.mg "zip" = none) (he : PE X e te)
    (hst : starEach [.Starred e p2] X.env = [(true, eval e X.env)] := by rfl) :
    PI X (.Name nm np) (.Call (.Name "zip" p) [.Starred e p2] [] pos) (iZipN X.K te) := by
  refine ⟨fun pins s σ H R I h => ?_⟩
  refine Call_ (ld_blt I hg hm PyProof.Rows.boot_zip ?_)
  rw [hst]
  refine PySem.W.ks_call (P := fun _ => True) rfl (first := []) (fun h _ => ⟨.machine, .inr (.inl rfl), fun _ _ _ _ _ q => wpAny_pure q⟩) (PySem.W.ks_lone (thn (he.run pins s σ H _ I h) fun v s1 hh => ?_))
  obtain ⟨y, H1, I1, ry, a, xs, m, ey, hx, h1, hmm, q⟩ := hh
  subst ey
  obtain rfl : v = Value.ref a := ry
  have hx2 := I1.list hx
  refine StX.star_any I1 (.inr hx) fun us s2 I2 rv => ⟨trivial, ?_⟩
  obtain ⟨ts, rfl, rfl⟩ := strs_splitT rv
  obtain ⟨its, rv', pl, hz⟩ := hx2
  have hn : ts.length ≤ sizeLine := by
    have := rv'.length
    simp only [List.length_map] at this hz
    omega
  refine zip_beginsN hn fun h' zn => ?_
  obtain ⟨st, sz, kp⟩ := zn
  have hT : ({ s2 with heap := h' } : Shared).TypeIs (.ref (s2.heap.objs.size + ts.length + 2)) "zip" := by obtain ⟨o0, f, _, hZ⟩ := st.zip; exact ⟨_, hZ, rfl⟩
  have turn := turn_zipN (P := X.prog) (w := X.w) (K := X.K) (nm := nm) (p := np) (ts := ts) (m := m) (b := s2.heap.objs.size) rfl rfl rfl (by simpa using h1) (fun x hx => hmm _ (List.mem_map.mpr ⟨x, hx, rfl⟩)) hn
  refine turn.self _ 0 _ _ _ st ?_
  have I3 : Inv X pins σ H1 { s2 with heap := h' } := I2.kept (t' := s2.toks) kp
  exact ⟨_, _, _, _, H1, rfl, I3, turn, st, fun c hc => I2.fpOk (span_mem.mp hc).1 (I2.hok.fresh (span_mem.mp hc).1), q⟩
end Qt
/-! set of a tuple; sets of few texts made of many. -/
namespace Qt
open PySem PySem.Spec PyProof.Rows L2 Evl PySem.W
section
variable {P : Program} {w : World} {A : Around} {E : Value → Shared → Prop} {s : Shared}
set_option maxHeartbeats 16000000 in
theorem set_of_tuple {l : Addr} {items : Array Value} {Post : Addr → Heap → Prop} {Q : Value → Shared → Prop} (hh : A.handled = none) (hl : s.heap.IsTuple l items) (loop : Fills P w items Post)
    (h : ∀ (h' : Heap) (tk : Nat), Post s.heap.objs.size h' → (∀ b o, s.heap.get? b = some o → h'.get? b = some o) → Q (.ref s.heap.objs.size) { s with heap := h', toks := tk }) :
    wpAny (model P w) A (call (.type "set") [.ref l]) Q E s := by
  obtain ⟨c, tl, hmro⟩ := F.called_set.mro
  have hmade := F.called_set.made
  have hsub := F.called_set.sub
  have h1 := F.called_set.notType
  have h2 := F.called_set.canCreate
  have hct := F.typeCall_set_1 (.ref l)
  refine wpAny_call (codeAny_of_tree ?_)
  show wpAny _ _ (callAny (.type "set") _) _ _ _
  refine wpAny_pure ⟨Code.quiet_builtin _ (by decide +kernel), codeAny_builtin F.entry_type_call ?_⟩
  rw [Around.under_plain (weight_type_call_type "set" [.ref l] []) rfl]
  repeat (any_goals (first | assumption | wp_step))
  refine codeAny_mono (code_set_led1 (.ref l) (E := E) (Q₁ := fun obj s₁ => obj = .ref s.heap.objs.size ∧ s₁ = { s with heap := s.heap.push (sob w) }) ⟨rfl, rfl⟩) fun r s₁ hr => ?_
  rcases r with er | fl
  · exact hr
  cases fl
  case ret obj =>
    obtain ⟨rfl, rfl⟩ := hr
    have hS : (s.heap.push (sob w)).get? s.heap.objs.size = some (sob w) := Heap.get?_push_size _ rfl
    have hT : Shared.TypeIs { s with heap := s.heap.push (sob w) } (.ref s.heap.objs.size) "set" := ⟨_, hS, rfl⟩
    have hli := F.called_set.init.lookup
    have hbi := F.called_set.init.bind (.ref s.heap.objs.size)
    repeat (any_goals (first | assumption | wp_step))
    refine codeAny_mono (codeAny_call_builtin (R := wants (fun r s₂ => r = .none ∧ ∃ h' tk, s₂ = { s with heap := h', toks := tk } ∧ Post s.heap.objs.size h' ∧ ∀ b o, s.heap.get? b = some o → h'.get? b = some o) E)
      F.called_set.init.plain F.entry_set_init (check_set_init_1 hT ?_)) fun r₂ s₂ hr₂ => ?_
    · obtain ⟨ol, hol, hcl, nl, hdl⟩ := hl
      obtain ⟨ocls, odict, odata, oslots⟩ := ol
      simp only at hcl hdl
      subst hcl
      subst hdl
      have hol' : (s.heap.push (sob w)).get? l = some { cls := .type "tuple", dict := odict, data := .seq items nl, slots := oslots } := Heap.get?_push_of_some _ hol
      have hsls := F.sub_tuple_set
      have hslf := F.sub_tuple_frozenset
      have hne : (Value.type "tuple" == Value.type "dict") = false := by decide
      have hl1 : (s.heap.push (sob w)).IsTuple l items := ⟨_, hol', rfl, nl, rfl⟩
      unfold Builtin.«set.__init__» noKeywords Builtin.Frozenset.updateFrom
      generalize hPI : pyIter = PI
      wp_walk
      subst hPI
      refine wpAny_pyIter_tuple hl1 ?_
      refine wpAny_bind (wpAny_runValue ?_)
      have hlS : l < s.heap.objs.size := Heap.lt_size hol
      have hz : (s.heap.push (sob w)).objs.size = s.heap.objs.size + 1 := Heap.size_push ..
      have hneI : l ≠ (s.heap.push (sob w)).objs.size := by
        rw [hz]
        exact Nat.ne_of_lt (Nat.lt_succ_of_lt hlS)
      have hSf : s.heap.objs.size ∉ [(s.heap.push (sob w)).objs.size, l] := fun z => by
        rcases List.mem_cons.mp z with z | z
        · rw [hz] at z
          exact absurd z (Nat.ne_of_lt (Nat.lt_succ_self _))
        · exact absurd (List.mem_singleton.mp z) (Nat.ne_of_gt hlS)
      refine loop _ _ _ _ _ _ _ ((Walks.tuple (by simp [hh]) _ l hneI items).toS) s.heap.objs.size hSf _ ⟨⟨_, Heap.get?_push_size _ rfl, rfl, rfl⟩, (hl1.push _)⟩ (Heap.get?_push_of_some _ hS) fun s' hm hp => ?_
      obtain ⟨h', g2, d', tk', os'⟩ := s'
      obtain rfl : g2 = s.gens := hm.gens
      obtain rfl : d' = s.drawn := hm.drawn
      obtain rfl : os' = s.os := hm.os
      show wpAny _ _ _ _ _ _
      refine wpAny_pure ?_
      show wpAny _ _ (ret Value.none) _ _ _
      refine wpAny_pure ⟨rfl, h', tk', rfl, hp, fun b o e => ?_⟩
      have hb0 : b < s.heap.objs.size := Heap.lt_size e
      refine hm.heap b o (fun z => ?_) (Heap.get?_push_of_some _ (Heap.get?_push_of_some _ e))
      rcases List.mem_cons.mp z with z | z
      · exact absurd z (Nat.ne_of_lt hb0)
      · have z' := List.mem_singleton.mp z
        rw [hz] at z'
        exact absurd z' (Nat.ne_of_lt (Nat.lt_succ_of_lt hb0))
    · rcases r₂ with er | fl₂
      · exact hr₂
      cases fl₂
      case ret r =>
        obtain ⟨rfl, h', tk, rfl, hp, hk'⟩ := hr₂
        repeat (any_goals (first | assumption | wp_step))
        exact h _ _ hp hk'
      all_goals exact hr₂.elim
  all_goals exact hr.elim

variable {a : Addr} {M : Str → Bool}
theorem len_sub {α : Type} [BEq α] [LawfulBEq α] : ∀ (l m : List α), l.Nodup → (∀ k ∈ l, k ∈ m) → l.length ≤ m.length := fun l => by
  induction l with
  | nil => exact fun m _ _ => Nat.zero_le _
  | cons x r ih =>
    intro m hn hs
    obtain ⟨h1, h2⟩ := List.nodup_cons.mp hn
    have hx := hs x List.mem_cons_self
    have z := ih (m.erase x) h2 fun k hk => by
      have hne : k ≠ x := fun e => h1 (e ▸ hk)
      exact (List.mem_erase_of_ne hne).mpr (hs k (List.mem_cons_of_mem _ hk))
    rw [List.length_erase_of_mem hx] at z
    have := List.length_pos_of_mem hx
    rw [List.length_cons]
    omega
theorem setT_sizeY {h : Heap} (R : SetT P w h a M) (Y : List Str) (hY : ∀ k, M k = true → k ∈ Y) : ∀ ob es ep tb, h.get? a = some ob → ob.data = .set es ep tb → es.size ≤ Y.length := fun ob es ep tb h0 hd => by
  obtain ⟨ob', es', ep', tb', h0', _, hd', _, nd, hm, _⟩ := R
  rw [h0] at h0'
  cases h0'
  rw [hd] at hd'
  cases hd'
  have := len_sub _ Y nd fun k hk => hY k ((hm k).2 hk)
  rw [List.length_map, Array.length_toList] at this
  exact this
theorem fill_setY {I : Addr} {fp wr : List Addr} {G : Array GenState → Array GenState → Prop} {m : Nat} {Pv : Nat → Value → Prop} {St : Nat → Shared → Prop} {R : Result → Shared → Prop}
    (W : WalksS P w A.in1 I fp wr G m Pv St) (S : Addr) (hSf : S ∉ fp) (xs Y : List Str) (hY : ∀ x ∈ xs, x ∈ Y) (hn : m = xs.length) (hb : Y.length + 1 < scanBound) (hval : ∀ i v, Pv i v → ∃ k t, xs[i]? = some k ∧ v = .str k t) :
    ∀ (k i : Nat) (s : Shared), m - i = k → i ≤ m → St i s → SetT P w s.heap S (fun k => decide (k ∈ xs.take i)) → (∀ s', Moved (S :: wr) G s s' → SetT P w s'.heap S (fun k => decide (k ∈ xs)) → R (.ok (.ret .none)) s') →
      codeAny (model P w) A (.builtin "set.update.loop" ⟨[.ref S, .ref I], []⟩) R s := by
  have out : S ∉ wr := fun h => hSf (W.sub _ h)
  have into : ∀ b ∈ wr, b ∈ S :: wr := fun b hb => List.mem_cons_of_mem _ hb
  intro k
  induction k with
  | zero =>
    intro i s hk' hi hst hS hR
    obtain rfl : i = m := by omega
    refine codeAny_builtin F.entry_set_update_loop ?_
    rw [Around.under_plainId F.plain_set_update_loop _]
    show wpAny _ A.in1 (pyNext (.ref I) >>= _) _ _ s
    refine wpAny_bind (W.done s _ _ hst fun s' hm => ?_)
    show wpAny _ A.in1 (ret Value.none) _ _ s'
    rw [List.take_of_length_le (by omega)] at hS
    exact wpAny_pure (hR s' (hm.mono into) (setT_mono hS (fun o e => hm.heap S o out e)))
  | succ k ih =>
    intro i s hk' hi hst hS hR
    have hlt : i < m := by omega
    refine codeAny_builtin F.entry_set_update_loop ?_
    rw [Around.under_plainId F.plain_set_update_loop _]
    show wpAny _ A.in1 (pyNext (.ref I) >>= _) _ _ s
    refine wpAny_bind (W.item i s _ _ hlt hst fun v s' hP hst' hm => ?_)
    obtain ⟨z, t, hz, rfl⟩ := hval i v hP
    have hS' := setT_mono (h' := s'.heap) hS (fun o e => hm.heap S o out e)
    show wpAny _ A.in1 (holding [Value.str z t] (setAdd S (.str z t)) >>= _) _ _ s'
    refine wpAny_bind (wpAny_holding ?_)
    unfold setAdd
    refine wpAny_holding ?_
    refine wpAny_bind ((PySem.strKind P w).pyHash (k := z) (strKind_is _ _ _ _) ?_)
    refine setT_add (s := { s' with toks := s'.toks + 1 }) hS' (fun ob es ep tb h0 hd => ?_) fun h' b hsb hS2 => ?_
    · have := setT_sizeY hS' Y (fun k hk => hY k (List.mem_of_mem_take (of_decide_eq_true hk))) ob es ep tb h0 hd
      omega
    have eT : xs.take (i + 1) = xs.take i ++ [z] := by rw [List.take_add_one, hz]; rfl
    have hS3 : SetT P w h' S (fun k => decide (k ∈ xs.take (i + 1))) := setT_congr hS2 fun j => by
      rw [eT]
      simp [List.mem_append]
    refine wpAny_pure ⟨plainId_quiet F.plain_set_update_loop _, ih (i + 1) _ (by omega) hlt (W.frame _ s' _ _ hst' (Nat.le_succ _) fun b hb o e => ?_) hS3 fun s'' hm'' hS'' => ?_⟩
    · rw [hsb.2 b (fun h : b = S => hSf (by rw [← h]; exact hb))]; exact e
    · refine hR s'' (Moved.trans W.gtrans ((hm.mono into).then_heap (Nat.le_succ _) fun b o hb e => ?_) hm'') hS''
      rw [hsb.2 b (fun h : b = S => hb (by rw [h]; exact List.mem_cons_self))]; exact e
theorem fills_setY {items : Array Value} {xs : List Str} (Y : List Str) (hY : ∀ x ∈ xs, x ∈ Y) (hit : StrsAre items.toList xs) (hb : Y.length + 1 < scanBound) : Fills P w items (fun S h => SetT P w h S (fun k => decide (k ∈ xs))) := by
  have hn : items.size = xs.length := by
    have q : ∀ {us : List Value} {ys : List Str}, StrsAre us ys → us.length = ys.length := by
      intro us ys h
      induction h with
      | nil => rfl
      | cons _ _ _ ih => rw [List.length_cons, List.length_cons, ih]
    have q := q hit
    rwa [Array.length_toList] at q
  have at_ : ∀ {us : List Value} {ys : List Str}, StrsAre us ys → ∀ (i : Nat) (v : Value), us[i]? = some v → ∃ k t, ys[i]? = some k ∧ v = .str k t := by
    intro us ys h
    induction h with
    | nil => intro i v e; simp at e
    | cons y t _ ih =>
      intro i v e
      cases i with
      | zero =>
        have e' := Option.some.inj e
        exact ⟨y, t, rfl, e'.symm⟩
      | succ i => exact ih i v e
  intro A' I fp wr G St R W S hS s0 hst h0 hR
  refine fill_setY W S hS xs Y hY hn hb (fun i v hv => at_ hit i v (by rw [Array.getElem?_toList]; exact hv)) (items.size - 0) 0 s0 rfl (Nat.zero_le _) hst
    ⟨_, #[], 0, _, h0, ⟨rfl, rfl, rfl⟩, rfl, (fun e he => by simp at he), (by simp), (fun k => by simp), (by decide), (by rfl), List.Pairwise.nil, ?_⟩ fun s' hm hs => hR s' hm hs
  cases hw : w.params.followText "set-order"
  · right
    simp [hw]
    rfl
  · exact .inl rfl
end
section
variable {X : Cx}
/-- sorted(set(xs)), xs many texts, but few that are not alike (no more than Y tells) -/
def tSortedSetY (K : PySem.W.Frag) (ta : TE) : TE := fun σ H Q => ta σ H fun x H1 => ∃ (l : Addr) (xs Y : List Str), x = .ref l ∧ SqL K H1 l (xs.map V.str) ∧ (∀ x ∈ xs, x ∈ Y) ∧ Y.length ≤ 4090 ∧
  ∀ ys : List Str, ys.Pairwise (fun x y => x.cps.toList < y.cps.toList) → (∀ k, k ∈ ys ↔ k ∈ xs) → ∀ p, H1 p = none → Q (.ref p) (upd H1 p (.lst (ys.map V.str)))
/-- len(set(xs)), xs a tuple or list of texts, few that are not alike -/
def tLenSetY (K : PySem.W.Frag) (ta : TE) : TE := fun σ H Q => ta σ H fun x H1 => ∃ (l : Addr) (xs Y : List Str), x = .ref l ∧ (SqT K H1 l (xs.map V.str) ∨ SqL K H1 l (xs.map V.str)) ∧ (∀ x ∈ xs, x ∈ Y) ∧ Y.length ≤ 4090 ∧
  ∀ ds : List Str, ds.Nodup → (∀ k, k ∈ ds ↔ k ∈ xs) → Q (.int (ds.length : Int)) H1
theorem pe_lenSetY {a : Expr} {ta : TE} {p p2 q pos : Pos} (hc : X.calm = true) (hg : Gl X "len") (hm : X.mg "len" = none) (hg2 : Gl X "set") (hm2 : X.mg "set" = none) (ha : PE X a ta)
    (na : starEach [a] X.env = (false, eval a X.env) :: starEach [] X.env := by rfl) : PE X (.Call (.Name "len" p) [.Call (.Name "set" p2) [a] [] q] [] pos) (tLenSetY X.K ta) := by
  refine ⟨fun pins s σ H Q I h => Call_ (ld_blt I hg hm PySem.boot_len (PyProof.Rows.callWith_builtin1 (PyProof.Rows.args_cons (Call_ (ld_blt I hg2 hm2 PyProof.Rows.boot_set ?_)) rfl) rfl rfl))⟩
  refine PyProof.Rows.callWith_type1 (PyProof.Rows.args_cons (thn (ha.run pins s σ H _ I h) fun v s1 hh => PyProof.Rows.args_nil ?_) na) na rfl
  obtain ⟨x, H1, I1, r1, l, xs, Y, rfl, hq, hY, hl, q1⟩ := hh
  cases r1
  have fin : ∀ (h' : Heap) (tk : Nat), SetT X.prog X.w h' s1.heap.objs.size (fun k => decide (k ∈ xs)) → (∀ b o, s1.heap.get? b = some o → h'.get? b = some o) →
      wpAny (model X.prog X.w) X.A (spliced (backTo pos (starEach [] X.env))) (fun vs s₂ => wpAny (model X.prog X.w) X.A (call (.builtin "len") (Value.ref s1.heap.objs.size :: vs)) (EP X pins σ Q) X.xe s₂) X.xe { s1 with heap := h', toks := tk } := fun h' tk hS hk => PyProof.Rows.args_nil (by
    have hsz := setT_sizeY hS Y fun k hk => hY k (of_decide_eq_true hk)
    obtain ⟨o, es, ep, tb, ho, hex, hd, _, nd, hm, hb, hf, _⟩ := hS
    have I2 : Inv X pins σ H1 { s1 with heap := h', toks := tk } := I1.kept hk
    have := hsz o es ep tb ho hd
    refine call_len_set ho hex hd hf (by omega) ⟨.int ((es.toList.map txtOf).length : Int), H1, I2.tok _, ⟨_, by rw [List.length_map, Array.length_toList]⟩, q1 _ nd fun k => ((hm k).symm.trans decide_eq_true_iff)⟩)
  rcases hq with hq | hq
  · obtain ⟨its, r, pl, hz⟩ := I1.tuple hq
    exact set_of_tuple (I1.ok.hd hc) pl (fills_setY (xs := xs) Y hY (by simpa using strsAre_of r) (by unfold scanBound; omega)) fun h' tk hS hk => fin h' tk hS hk
  · obtain ⟨its, r, pl, hz⟩ := I1.list hq
    exact set_of_list (I1.ok.hd hc) pl.isList (fills_setY (xs := xs) Y hY (by simpa using strsAre_of r) (by unfold scanBound; omega)) fun h' tk hS hk => fin h' tk hS hk
theorem pe_lenSetYK (K : PySem.W.Frag) (hK : X.K = K) {a : Expr} {ta : TE} {p p2 q pos : Pos} (hc : X.calm = true) (hg : Gl X "len") (hm : X.mg "len" = none) (hg2 : Gl X "set") (hm2 : X.mg "set" = none) (ha : PE X a ta)
    (na : starEach [a] X.env = (false, eval a X.env) :: starEach [] X.env := by rfl) : PE X (.Call (.Name "len" p) [.Call (.Name "set" p2) [a] [] q] [] pos) (tLenSetY K ta) := by
  subst hK
  exact pe_lenSetY hc hg hm hg2 hm2 ha na
end
end Qt
/-! Loops over the signs of a text; comprehensions over zip(*xs); sets of few texts. -/
namespace Qt
open PySem PySem.Spec PyProof.Rows L2 Evl
theorem walk_zipN {xs : List Str} {m : Nat} : Walk (Itzn xs m) m (fun _ => True) (fun i H v H' => ∃ T : Addr, v = .ref T ∧ H T = none ∧ H' = upd H T (.tup (xs.map fun x => .str ⟨#[x.cps.getD i 0]⟩))) :=
  ⟨fun _ _ h _ => h, fun _ _ => rfl, fun _ _ _ _ _ _ h => h⟩
section
variable {K : PySem.W.Frag} {σ : L2.St} {H : Hp} {te tl to : TE} {t : TT} {ta : TA} {tu : TS} {D : Ends}
/-- [e for signs in zip(*xs)] -/
theorem el_lcZn {a : Addr} {xs : List Str} {m j : Nat} {vs : List Nat} (v : Nat → V) (h : Ev tl σ H (.ref a)) (hx : SqL K H a (xs.map V.str)) (h1 : 1 ≤ xs.length) (hm : ∀ x ∈ xs, x.cps.size = m) (hz : m ≤ 40000)
    (hw : ∀ x, wipe ((wipe σ vs).set j (some x)) vs = wipe σ vs)
    (he : ∀ (i : Nat) (T : Addr) H1, Ex H H1 → i < m → H1 T = some (.tup (xs.map fun x => .str ⟨#[x.cps.getD i 0]⟩)) → Ev te ((wipe σ vs).set j (some (.ref T))) H1 (v i)) :
    EvL (tLc (iZipN K tl) (gName j) tYes te vs) σ H ((List.range m).map v) := fun H0 e Q q => h H0 e _ fun H1 e1 => ⟨a, xs, m, rfl, ex_l (e.trans e1) hx, h1, hm, fun Dl hD => by
  refine lc_it walk_zipN (fun i H' => Ex H1 H' ∧ H' Dl = some (.lst ((List.range i).map v))) ⟨Ex.new hD, upd_same⟩ (fun _ _ _ _ => trivial) (fun i z H2 H' hi p y' => ?_) (fun H' p => q Dl H' (fresh_back e1 hD) (e1.trans p.1) p.2)
  obtain ⟨T, rfl, nT, rfl⟩ := y'
  obtain ⟨p1, p2⟩ := p
  have nTD : Dl ≠ T := ne_of_none p2 nT
  refine ⟨hw _, ?_⟩
  refine yes_if ?_
  have eT : Ex H2 (upd H2 T (.tup (xs.map fun x => .str ⟨#[x.cps.getD i 0]⟩))) := Ex.new nT
  refine he i T _ ((e.trans e1).trans (p1.trans eT)) hi upd_same _ (Ex.refl _) _ fun H3 e3 => ⟨_, e3 _ _ (eT _ _ p2), ?_, Ex.mut ((p1.trans eT).trans e3) hD, ?_⟩
  · rw [List.length_map, List.length_range, sizeLine_eq]
    omega
  · rw [upd_same, List.range_succ, List.map_append]
    rfl⟩
end
end Qt
/-! Calls that draw (their promise is told raw), with the statement they stand in. -/
namespace Qt
open PySem PySem.Spec PyProof.Rows L2 Evl
section
variable {K : PySem.W.Frag} {σ : L2.St} {H : Hp} {ta : TA} {te : TE} {tz tu : TS} {D : Ends} {sp : Sp} {E : XK} {vs : List V}
end
end Qt
/-! Comprehensions over range(lo, n) with a test; xs.index(y); the first turn that a test lets through. -/
namespace Qt
open PySem PySem.Spec PyProof.Rows L2 Evl
section
variable {K : PySem.W.Frag} {σ : L2.St} {H : Hp} {te tl to : TE} {t : TT} {ta : TA}
end
end Qt
/-! Sets of fewer than 64 tuples of texts: searching, adding, filling. The table's own lemmas are the library's (HandS.TupSets); what is said of the tuples is said here for keys of any kind that answers by value. -/
namespace Qt
open PySem PySem.Spec PyProof.Rows L2 Evl PySem.W
section
variable {κ : Type} [DecidableEq κ] {P : Program} {w : World} {knd : PySem.KeyKind P w κ}
/-- things of this kind are asked about without any code of a class -/
def Tame (knd : PySem.KeyKind P w κ) : Prop := ∀ (c : κ) (u : Value), knd.is c u = true → ∀ d, ofAClassStatement d u = pure false ∧ ∃ b, hashByValue d u = pure b
theorem tame_str : Tame (PySem.strKind P w) := fun c u hu d => by
  obtain ⟨t, rfl⟩ := Value.isStrOf_shape hu
  cases d <;> exact ⟨rfl, _, rfl⟩
theorem tame_all (T : Tame knd) {ks : List κ} {us : List Value} (h : ItemsAre knd ks us) : ∀ u ∈ us, ∀ d, ofAClassStatement d u = pure false ∧ ∃ b, hashByValue d u = pure b := by
  induction h with
  | nil => exact fun u hu => absurd hu (by simp)
  | cons hv _ ih =>
    intro u hu
    cases hu with
    | head => exact T _ _ hv
    | tail _ hu => exact ih u hu
variable {A : Around} {E : Value → Shared → Prop} {s : Shared}
theorem noClass_tup (T : Tame knd) {ks : List κ} {x : Addr} {Q : Bool → Shared → Prop} (hx : IsTupleKey knd s.heap ks x) (q : Q false s) : wpAny (model P w) A (ofAClassStatement 8 (.ref x)) Q E s := by
  have ty := hx.typeIs
  obtain ⟨ob, arr, cap, g0, _, gd, items⟩ := hx
  unfold ofAClassStatement
  refine wpAny_bind (wpAny_typeOf ty ?_)
  dsimp only
  have eT : (("tuple" : String) == "tuple") = true := by decide
  simp only [eT, if_true, Bool.not_true, Bool.false_eq_true, if_false]
  try refine wpAny_bind (wpAny_pure ?_)
  try simp only [Bool.not_true, Bool.false_eq_true, if_false]
  refine wpAny_bind (m := seqItems? (.ref x)) (wpAny_seqItems g0 gd ?_)
  dsimp only
  refine wpAny_bind (m := forIn arr _ _) ?_
  refine PySem.MeetsSeq2.wpAny_forIn_array _ (fun todo acc s2 => acc.1 = none ∧ s2 = s ∧ ∀ u ∈ todo, ∀ d, ofAClassStatement d u = pure false ∧ ∃ b, hashByValue d u = pure b) _ (fun u todo acc s2 I => ?_) (fun acc s2 I => ?_) _ _ ⟨rfl, rfl, tame_all T items⟩
  · obtain ⟨i1, rfl, i3⟩ := I
    rw [(i3 u List.mem_cons_self _).1]
    refine wpAny_bind (wpAny_pure ?_)
    simp only [Bool.false_eq_true, if_false]
    exact wpAny_pure ⟨rfl, rfl, fun v hv => i3 v (List.mem_cons_of_mem _ hv)⟩
  · obtain ⟨a1, a2⟩ := acc
    obtain ⟨i1, rfl, _⟩ := I
    simp only at i1
    subst i1
    exact wpAny_pure q
theorem byVal_tup (T : Tame knd) {ks : List κ} {x : Addr} {Q : Bool → Shared → Prop} (hx : IsTupleKey knd s.heap ks x) (q : ∀ b, Q b s) : wpAny (model P w) A (hashByValue 8 (.ref x)) Q E s := by
  have ty := hx.typeIs
  obtain ⟨ob, arr, cap, g0, _, gd, items⟩ := hx
  unfold hashByValue
  refine wpAny_bind (wpAny_specialOf ty F.slot_tuple_hash.lookup ?_)
  refine wpAny_bind (m := seqItems? (.ref x)) (wpAny_seqItems g0 gd ?_)
  refine wpAny_bind (m := forIn arr _ _) ?_
  refine PySem.MeetsSeq2.wpAny_forIn_array _ (fun todo acc s2 => acc.1 = none ∧ s2 = s ∧ ∀ u ∈ todo, ∀ d, ofAClassStatement d u = pure false ∧ ∃ b, hashByValue d u = pure b) _ (fun u todo acc s2 I => ?_) (fun acc s2 I => ?_) _ _ ⟨rfl, rfl, tame_all T items⟩
  · obtain ⟨i1, rfl, i3⟩ := I
    obtain ⟨_, by1, e1⟩ := i3 u List.mem_cons_self 7
    rw [e1]
    refine wpAny_bind (wpAny_pure ?_)
    cases by1 with
    | true =>
      simp only [Bool.not_true, Bool.false_eq_true, if_false]
      exact wpAny_pure ⟨rfl, rfl, fun v hv => i3 v (List.mem_cons_of_mem _ hv)⟩
    | false =>
      simp only [Bool.not_false, if_true]
      exact wpAny_pure (wpAny_pure (q false))
  · obtain ⟨a1, a2⟩ := acc
    obtain ⟨i1, rfl, _⟩ := I
    simp only at i1
    subst i1
    exact wpAny_pure (q true)
/-- what is looked at on the way tells nobody of it -/
theorem unseen_tup (T : Tame knd) {ks : List κ} {x : Addr} {Q : Bool → Shared → Prop} (hx : IsTupleKey knd s.heap ks x) {us : List Value} (hus : ∀ u ∈ us, ∃ k2 y, u = Value.ref y ∧ IsTupleKey knd s.heap k2 y) (q : Q false s) :
    wpAny (model P w) A (searchCouldBeSeen (.ref x) us) Q E s := by
  unfold searchCouldBeSeen
  refine wpAny_bind ?_
  refine wpAny_forIn_list _ (fun todo acc s2 => acc.1 = none ∧ s2 = s ∧ ∀ u ∈ todo, ∃ k2 y, u = Value.ref y ∧ IsTupleKey knd s.heap k2 y) _ (fun u todo acc s2 I => ?_) (fun acc s2 I => ?_) _ _ ⟨rfl, rfl, hus⟩
  · obtain ⟨i1, rfl, i3⟩ := I
    obtain ⟨k2, y, rfl, hy⟩ := i3 u List.mem_cons_self
    have more : ∀ v ∈ todo, ∃ k2 y, v = Value.ref y ∧ IsTupleKey knd s2.heap k2 y := fun v hv => i3 v (List.mem_cons_of_mem _ hv)
    dsimp only
    by_cases same : (x == y || (carriedByValue (.ref x) && carriedByValue (.ref y))) = true
    · exact wp_if_pos same (wpAny_pure ⟨rfl, rfl, more⟩)
    · refine wp_if_neg same (wpAny_bind (wpAny_eqIsQuiet_tuple hx ?_))
      simp only [Bool.not_true, Bool.false_eq_true, if_false]
      refine wpAny_bind (wpAny_eqIsQuiet_tuple hy ?_)
      simp only [Bool.not_true, Bool.false_eq_true, if_false]
      refine wpAny_bind (noClass_tup T hx ?_)
      simp only [Bool.false_eq_true, if_false]
      refine wpAny_bind (noClass_tup T hy ?_)
      simp only [Bool.false_eq_true, if_false]
      exact wpAny_pure ⟨rfl, rfl, more⟩
  · obtain ⟨a1, a2⟩ := acc
    obtain ⟨i1, rfl, _⟩ := I
    simp only at i1
    subst i1
    exact wpAny_pure q
/-- the set at S holds the tuples G -/
structure TupSet (knd : PySem.KeyKind P w κ) (h : Heap) (S : Addr) (G : List (Addr × List κ)) (es : Array (Int × Value)) (ep : Nat) (tb : SetTable) : Prop where
  obj : ∃ ob, h.get? S = some ob ∧ ob.ExactSet ∧ ob.data = .set es ep tb
  ents : es.toList = G.map fun g => (tupleKeyHash knd g.2, Value.ref g.1)
  tab : TabOk tb (G.map fun g => tupleKeyHash knd g.2)
  dist : (G.map Prod.snd).Nodup
  here : ∀ g ∈ G, IsTupleKey knd h g.2 g.1
  led : w.params.followText "set-order" = true ∨ tb.led = true
  room : G.length * 5 < tb.mask * 3
  few : G.length < 64
variable {S : Addr} {G : List (Addr × List κ)} {es : Array (Int × Value)} {ep : Nat} {tb : SetTable}
theorem TupSet.count (R : TupSet knd s.heap S G es ep tb) : es.size = G.length := by
  rw [← Array.length_toList, R.ents, List.length_map]
theorem TupSet.fit (R : TupSet knd s.heap S G es ep tb) : tb.fits es.size = true := by
  have a := R.tab.sz
  have b := R.count
  have c := R.room
  rw [List.length_map] at a
  simp only [SetTable.fits, SetTable.fill, R.tab.dm, Bool.and_eq_true, beq_iff_eq, decide_eq_true_eq, List.size_toArray, List.length_nil]
  omega
theorem TupSet.ent (R : TupSet knd s.heap S G es ep tb) {i : Nat} {g : Addr × List κ} (hg : G[i]? = some g) : es[i]? = some (tupleKeyHash knd g.2, Value.ref g.1) := by
  rw [← Array.getElem?_toList, R.ents, List.getElem?_map, hg]
  rfl
theorem TupSet.stays (R : TupSet knd s.heap S G es ep tb) : ¬ tb.gaveWay = true := by
  simp only [SetTable.gaveWay, mask_odd R.tab.mok]
  decide
/-- a search on its c-th step, on a table whose first empty slot of the way is the N-th -/
abbrev stepAt (m : Nat) (v : Int) (c : Nat) : SetTable.Probe := nth m (runAt m (SetTable.bits v % (m + 1)) (SetTable.bits v)) c
theorem step_clean (m : Nat) : ∀ (c : Nat) (pr : SetTable.Probe), pr.dummy = none → (nth m pr c).dummy = none
  | 0, _, e => e
  | c + 1, pr, e => step_clean m c (adv m pr) (by unfold adv; split <;> exact e)
theorem tset_from (T : Tame knd) (R : TupSet knd s.heap S G es ep tb) {x : Addr} {ks : List κ} {v : Int} (ev : v = tupleKeyHash knd ks) (hx : IsTupleKey knd s.heap ks x) (hu : A.units < cLine) {N : Nat} (lowN : N < 10 * SetTable.turns tb.mask)
    (free : way tb.mask v N ∉ tb.place.toList) (full : ∀ c, c < N → way tb.mask v c ∈ tb.place.toList) {Q : SetFound → Shared → Prop} (yes : ks ∈ G.map Prod.snd → Q (.there none) s) (no : ks ∉ G.map Prod.snd → Q (.free (way tb.mask v N) false) s) :
    ∀ (fuel c : Nat) (stand : Option SetTable.Probe), stand.getD (tb.probeStart v) = stepAt tb.mask v c → c ≤ N → N - c < fuel →
      (∀ (i : Nat) (g : Addr × List κ), G[i]? = some g → g.2 = ks → ∃ d, c ≤ d ∧ d < N ∧ tb.place.toList[i]? = some (way tb.mask v d)) → wpAny (model P w) A (setSearchFrom S (.ref x) v true fuel stand) Q E s := by
  intro fuel
  induction fuel with
  | zero => exact fun c stand _ _ z _ => absurd z (Nat.not_lt_zero _)
  | succ fuel ih =>
    intro c stand at' hc hf due
    obtain ⟨ob, g0, gx, gd⟩ := R.obj
    have clean : (stepAt tb.mask v c).dummy = none := step_clean tb.mask c _ rfl
    have shift : ∀ d, nth tb.mask (stepAt tb.mask v c) d = stepAt tb.mask v (c + d) := fun d => (nth_add tb.mask c _ d).symm
    have slot : ∀ d, (nth tb.mask (stepAt tb.mask v c) d).j = way tb.mask v (c + d) := fun d => by rw [shift]
    have hash : ∀ (i : Nat) (g : Addr × List κ), G[i]? = some g → (es[i]?.map (·.1)).getD 0 = tupleKeyHash knd g.2 := fun i g hg => by rw [R.ent hg]; rfl
    rw [setSearchFrom_succ]
    refine wpAny_bind (wpAny_setState_of g0 gd R.fit ?_)
    dsimp only
    refine wp_if_neg R.stays ?_
    try refine wpAny_bind (wpAny_pure ?_)
    have found := go_spec tb R.tab.ris R.tab.dm (fun i => (es[i]?.map (·.1)).getD 0) v (10 * SetTable.turns tb.mask) (N - c) (stepAt tb.mask v c) clean (by omega) (fun d hd => by rw [slot]; exact full _ (by omega)) (by rw [slot, Nat.add_sub_cancel' hc]; exact free)
    rcases found with ⟨d, i, hd, hi, _, before, pr⟩ | ⟨before, pr⟩
    · -- one with the same hash
      have pr2 : tb.probe (fun i => (es[i]?.map (·.1)).getD 0) v (stand.getD (tb.probeStart v)) = some (.candidate (way tb.mask v (c + d)) i (stepAt tb.mask v (c + (d + 1)))) := by
        rw [at', ← slot, ← shift]
        exact pr
      rw [pr2]
      dsimp only
      rw [slot] at hi
      have li : i < G.length := by
        have a := (List.getElem?_eq_some_iff.mp hi).1
        have b := R.tab.sz
        rw [List.length_map] at b
        rw [Array.length_toList] at a
        omega
      obtain ⟨g, hg⟩ : ∃ g, G[i]? = some g := ⟨_, List.getElem?_eq_getElem li⟩
      have gm : g ∈ G := List.mem_of_getElem? hg
      have live := slot_live R.tab.ris hi
      have go : wpAny (model P w) A (searchRest S (.ref x) v true fuel es tb (way tb.mask v (c + d)) i (stepAt tb.mask v (c + (d + 1)))) Q E s := by
        unfold searchRest
        rw [R.ent hg]
        dsimp only
        refine wpAny_bind (wpAny_holding (wpAny_eqBool_tuple hu (R.here g gm) hx (wpAny_bind (wpAny_setState_of g0 gd R.fit ?_))))
        dsimp only
        by_cases alike : g.2 = ks
        · exact wp_if_pos (by simp [alike]) (wpAny_pure (yes (List.mem_map.mpr ⟨g, gm, alike⟩)))
        · refine wp_if_neg (by simp [alike]) ?_
          try refine wpAny_bind (wpAny_pure ?_)
          rw [sameMem]
          dsimp only
          simp only [if_true, live, R.ent hg]
          refine wpAny_bind (wpAny_isSame_ref_self (wpAny_bind (wpAny_pure ?_)))
          simp only [if_true]
          refine wp_if_neg (by simp [alike]) (ih (c + (d + 1)) _ rfl (by omega) (by omega) fun i2 g2 hg2 e2 => ?_)
          obtain ⟨d2, l1, l2, p2⟩ := due i2 g2 hg2 e2
          refine ⟨d2, ?_, l2, p2⟩
          have not1 : ¬ d2 < c + d := fun lt => before (d2 - c) i2 (by omega) (by rw [slot, Nat.add_sub_cancel' l1]; exact p2) ((hash i2 g2 hg2).trans (by rw [e2, ev]))
          have not2 : d2 ≠ c + d := fun e => by
            rw [e] at p2
            have two := slot_live R.tab.ris p2
            rw [live] at two
            injection two with two
            rw [← two, hg] at hg2
            exact alike ((congrArg Prod.snd (Option.some.inj hg2)).trans e2)
          omega
      by_cases led : tb.led = true
      · refine wp_if_neg (by simp [led]) ?_
        try refine wpAny_bind (wpAny_pure ?_)
        exact go
      · refine wp_if_pos (by simp [led]) (wpAny_bind (unseen_tup T hx (fun u hu' => ?_) ?_))
        · obtain ⟨en, hen, rfl⟩ := List.mem_map.mp hu'
          have hen : en ∈ es ∧ en.1 = v := by simpa using hen
          have hen : en ∈ es.toList := by simpa using hen.1
          rw [R.ents] at hen
          obtain ⟨g2, hg2, rfl⟩ := List.mem_map.mp hen
          exact ⟨g2.2, g2.1, rfl, R.here g2 hg2⟩
        · refine wp_if_neg Bool.false_ne_true ?_
          try refine wpAny_bind (wpAny_pure ?_)
          exact go
    · -- an empty slot
      have pr2 : tb.probe (fun i => (es[i]?.map (·.1)).getD 0) v (stand.getD (tb.probeStart v)) = some (.empty (way tb.mask v N) none) := by
        have eN : way tb.mask v N = (nth tb.mask (stepAt tb.mask v c) (N - c)).j := by rw [slot, Nat.add_sub_cancel' hc]
        rw [at', eN]
        exact pr
      rw [pr2]
      dsimp only
      refine wpAny_pure (no fun mem => ?_)
      obtain ⟨g, gm, eg⟩ := List.mem_map.mp mem
      obtain ⟨i, hg⟩ := List.getElem?_of_mem gm
      obtain ⟨d2, l1, l2, p2⟩ := due i g hg eg
      exact before (d2 - c) i (by omega) (by rw [slot, Nat.add_sub_cancel' l1]; exact p2) ((hash i g hg).trans (by rw [eg, ev]))
theorem tset_search (T : Tame knd) (R : TupSet knd s.heap S G es ep tb) {x : Addr} {ks : List κ} {v : Int} (ev : v = tupleKeyHash knd ks) (hx : IsTupleKey knd s.heap ks x) (hu : A.units < cLine) {Q : SetFound → Shared → Prop}
    (yes : ks ∈ G.map Prod.snd → Q (.there none) s) (no : ∀ N, ks ∉ G.map Prod.snd → way tb.mask v N ∉ tb.place.toList → (∀ c, c < N → way tb.mask v c ∈ tb.place.toList) → Q (.free (way tb.mask v N) false) s) :
    wpAny (model P w) A (setSearch S (.ref x) v true) Q E s := by
  have rm := R.room
  obtain ⟨N, lowN, free, full⟩ := R.tab.first (by rw [List.length_map]; omega) v
  have lowT : SetTable.turns tb.mask ≤ 142 := by
    unfold SetTable.turns
    rcases R.tab.mok with e | e | e <;> omega
  unfold setSearch
  refine tset_from T R ev hx hu lowN free full yes (fun mem => no N mem free full) 100000 0 none rfl (Nat.zero_le _) (by omega) fun i g hg eg => ?_
  have li : i < tb.place.toList.length := by
    have a := R.tab.sz
    have b := (List.getElem?_eq_some_iff.mp hg).1
    rw [List.length_map] at a
    rw [Array.length_toList]
    omega
  obtain ⟨d, ld, ed⟩ := R.tab.before free (i := i) (h := v) (by rw [List.getElem?_map, hg, ev, ← eg]; rfl) (List.getElem?_eq_getElem li)
  exact ⟨d, Nat.zero_le _, ld, by rw [ed]; exact List.getElem?_eq_getElem li⟩
theorem range_pick {α : Type} (l : List α) : (List.range l.length).filterMap (fun i => l[i]?) = l := by
  have e : (List.range l.length).map (fun i => l[i]?) = l.map some := by
    apply List.ext_getElem
    · simp
    · intro i h1 h2
      simp at h1
      simp [h1]
  have z := List.filterMap_map (f := fun i => l[i]?) (g := id) (l := List.range l.length)
  rw [e, List.filterMap_map] at z
  have z2 : l.filterMap (id ∘ some) = l := by
    show l.filterMap some = l
    exact List.filterMap_some ..
  rw [z2] at z
  exact z.symm
theorem pick_hash {α : Type} (l : List α) (φ : α → Int) : ∀ is : List Nat, (∀ i ∈ is, i < l.length) → (is.filterMap fun i => l[i]?).map φ = is.map fun i => (l.map φ).getD i 0
  | [], _ => rfl
  | i :: is, h => by
    have hi := h i List.mem_cons_self
    rw [List.filterMap_cons_some (List.getElem?_eq_getElem hi), List.map_cons, List.map_cons, pick_hash l φ is fun j hj => h j (List.mem_cons_of_mem _ hj), List.getD_eq_getElem?_getD, List.getElem?_map, List.getElem?_eq_getElem hi]
    rfl
theorem key_other {h h2 : Heap} {ks : List κ} {y : Addr} {ob : Obj} (hy : IsTupleKey knd h ks y) (g0 : h.get? S = some ob) (gd : ob.data = .set es ep tb) (but : Heap.SameBut S h h2) : IsTupleKey knd h2 ks y := by
  obtain ⟨o2, arr, cap, a0, a1, a2, a3⟩ := hy
  have ne : y ≠ S := fun e => by
    rw [e, g0] at a0
    cases a0
    rw [gd] at a2
    cases a2
  exact ⟨o2, arr, cap, (but.2 y ne).trans a0, a1, a2, a3⟩
/-- the table is laid anew -/
theorem tset_relay {ob : Obj} (g0 : s.heap.get? S = some ob) (gx : ob.ExactSet) (gd : ob.data = .set es ep tb) (ents : es.toList = G.map fun g => (tupleKeyHash knd g.2, Value.ref g.1)) (cnt : tb.place.size = es.size) (noD : tb.dummies = #[]) (lowM : es.size ≤ tb.mask)
    (dist : (G.map Prod.snd).Nodup) (here : ∀ g ∈ G, IsTupleKey knd s.heap g.2 g.1) (led : w.params.followText "set-order" = true ∨ tb.led = true) (few : G.length < 64) {want M : Nat} (eM : SetTable.sizeAbove want - 1 = M) (okM : MaskOk M) (lowW : SetTable.sizeAbove want ≤ 128) (room : G.length * 5 < M * 3)
    {Q : Unit → Shared → Prop} (q : ∀ h2 G2 es2 ep2 tb2, Heap.SameBut S s.heap h2 → TupSet knd h2 S G2 es2 ep2 tb2 → G2.Perm G → Q () { s with heap := h2 }) : wpAny (model P w) A (setRelay S want) Q E s := by
  have len : es.size = G.length := by rw [← Array.length_toList, ents, List.length_map]
  have fit : tb.fits es.size = true := by
    simp only [SetTable.fits, SetTable.fill, noD, Bool.and_eq_true, beq_iff_eq, decide_eq_true_eq, List.size_toArray, List.length_nil]
    omega
  obtain ⟨tb2, order, laid, perm, tab, m2, l2, _, _⟩ := relaid_ok tb (hs := es.map (·.1)) (wanted := want) eM okM (by rw [Array.size_map]; omega)
  rw [Array.size_map, len] at perm
  have inR : ∀ i ∈ order.toList, i < G.length := fun i hi => List.mem_range.mp (perm.mem_iff.mp hi)
  obtain ⟨G2, eG2⟩ : ∃ G2, order.toList.filterMap (fun i => G[i]?) = G2 := ⟨_, rfl⟩
  have pG2 : G2.Perm G := by
    have z := perm.filterMap fun i => G[i]?
    rw [range_pick, eG2] at z
    exact z
  have ents2 : (order.filterMap (es[·]?)).toList = G2.map fun g => (tupleKeyHash knd g.2, Value.ref g.1) := by
    rw [Array.toList_filterMap, ← eG2, List.map_filterMap]
    congr 1
    funext i
    rw [← Array.getElem?_toList, ents, List.getElem?_map]
  have tab2 : TabOk tb2 (G2.map fun g => tupleKeyHash knd g.2) := by
    rw [← eG2, pick_hash G _ _ inR]
    have z : (fun i => (es.map (·.1)).getD i 0) = fun i => (G.map fun g => tupleKeyHash knd g.2).getD i 0 := by
      funext i
      rw [Array.getD_eq_getD_getElem?, List.getD_eq_getElem?_getD, Array.getElem?_map, ← Array.getElem?_toList, ents, List.getElem?_map, List.getElem?_map, Option.map_map]
      rfl
    rw [← z]
    exact tab
  have len2 : (order.filterMap (es[·]?)).size = es.size := by rw [← Array.length_toList, ents2, List.length_map, pG2.length_eq, len]
  rw [setRelay_eq]
  refine wpAny_bind (wpAny_setState_of g0 gd fit ?_)
  dsimp only
  refine wp_if_neg (by rw [sizeLine_eq]; omega) ?_
  try refine wpAny_bind (wpAny_pure ?_)
  rw [laid]
  dsimp only
  refine wpAny_bind (wp_if_neg (by simp [len2]) ?_)
  try refine wpAny_bind (wpAny_pure ?_)
  refine wpAny_pure ?_
  dsimp only
  refine wpAny_storeSet_of g0 gd ?_ (by rw [len2, len, sizeLine_eq]; omega)
  have but : Heap.SameBut S s.heap (s.heap.update S (Obj.putSet (order.filterMap (es[·]?)) tb2)) := Heap.SameBut.update ..
  exact q _ G2 _ _ tb2 but ⟨⟨_, store_at g0 gd, ⟨gx.1, gx.2.1, gx.2.2⟩, rfl⟩, ents2, tab2, (pG2.map Prod.snd).nodup_iff.mpr dist, fun g hg => key_other (here g (pG2.mem_iff.mp hg)) g0 gd but, by rw [l2]; exact led, by rw [pG2.length_eq, m2]; exact room, by rw [pG2.length_eq]; exact few⟩ pG2
/-- one tuple more, or one that is there -/
theorem tset_add (T : Tame knd) (R : TupSet knd s.heap S G es ep tb) {x : Addr} {ks : List κ} (hx : IsTupleKey knd s.heap ks x) (hu : A.units < cLine) (few1 : G.length + 1 < 64) {Q : Bool → Shared → Prop}
    (q : ∀ b h2 G2 es2 ep2 tb2, Heap.SameBut S s.heap h2 → TupSet knd h2 S G2 es2 ep2 tb2 → (ks ∈ G.map Prod.snd ∧ G2 = G ∨ ks ∉ G.map Prod.snd ∧ G2.Perm ((x, ks) :: G)) → Q b { s with heap := h2 }) :
    wpAny (model P w) A (setAddHashed S (.ref x) (tupleKeyHash knd ks)) Q E s := by
  obtain ⟨v, ev⟩ : ∃ v, v = tupleKeyHash knd ks := ⟨_, rfl⟩
  rw [← ev]
  obtain ⟨ob, g0, gx, gd⟩ := R.obj
  have len := R.count
  have rm := R.room
  unfold setAddHashed
  refine wpAny_holding ?_
  rw [show (100000 : Nat) = 99999 + 1 from rfl, setAddHashedIn_succ]
  refine wpAny_bind (wpAny_setState_of g0 gd R.fit ?_)
  dsimp only
  refine wp_if_neg (by simp [byScan, Value.scannable]) ?_
  try refine wpAny_bind (wpAny_pure ?_)
  refine wpAny_bind (tset_search T R ev hx hu (fun mem => ?_) fun N mem free full => ?_)
  · dsimp only
    exact wpAny_pure (q false s.heap G es ep tb (Heap.SameBut.refl S s.heap) R (.inl ⟨mem, rfl⟩))
  dsimp only
  refine wpAny_bind (wpAny_setState_of g0 gd R.fit ?_)
  dsimp only
  obtain ⟨c1, c2, c3, c4, c5, _, _, _, c9⟩ := R.tab.put free full
  generalize tb.put (way tb.mask v N) = res at c1 c3 c4 c5 c9 ⊢
  obtain ⟨ta, at'⟩ := res
  dsimp only at c1 c3 c4 c5 c9 ⊢
  subst c1
  generalize SetTable.below tb.place (way tb.mask v N) = at' at c2 c3 ⊢
  -- the entries behind
  obtain ⟨G1, eG1⟩ : ∃ G1, G.take at' ++ (x, ks) :: G.drop at' = G1 := ⟨_, rfl⟩
  have pm : G1.Perm ((x, ks) :: G) := eG1 ▸ put_perm G at' (x, ks)
  have len1 : G1.length = G.length + 1 := pm.length_eq
  have ents1 : (SetTable.insertAt es at' (v, Value.ref x)).toList = G1.map fun g => (tupleKeyHash knd g.2, Value.ref g.1) := by
    rw [SetTable.toList_insertAt, R.ents, ← eG1, List.map_append, List.map_cons, List.map_take, List.map_drop, ev]
  have hs1 : (G.map fun g => tupleKeyHash knd g.2).take at' ++ v :: (G.map fun g => tupleKeyHash knd g.2).drop at' = G1.map fun g => tupleKeyHash knd g.2 := by
    rw [← eG1, List.map_append, List.map_cons, List.map_take, List.map_drop, ev]
  rw [hs1] at c3
  have dist1 : (G1.map Prod.snd).Nodup := (pm.map Prod.snd).nodup_iff.mpr (List.nodup_cons.mpr ⟨mem, R.dist⟩)
  have size1 : (SetTable.insertAt es at' (v, Value.ref x)).size = G.length + 1 := by rw [← Array.length_toList, ents1, List.length_map, len1]
  generalize SetTable.insertAt es at' (v, Value.ref x) = es1 at ents1 size1 ⊢
  have behind : ∀ by1 : Bool, wpAny (model P w) A (do
      storeSet S es1 (if by1 = true then ta else { ta with plain := false })
      if (!false && (if by1 = true then ta else { ta with plain := false }).tooFull) = true then setRelay S (SetTable.grown (es.size + 1))
      pure true) Q E s := fun by1 => by
    obtain ⟨tc, etc, k1, k2, k3, k4⟩ : ∃ tc : SetTable, (if by1 = true then ta else { ta with plain := false }) = tc ∧ TabOk tc (G1.map fun g => tupleKeyHash knd g.2) ∧ tc.mask = ta.mask ∧ tc.led = ta.led ∧ tc.fill = ta.fill := by
      cases by1
      · exact ⟨_, rfl, ⟨c3.ris, c3.dm, c3.sz, c3.mok, c3.bd, c3.reach⟩, rfl, rfl, rfl⟩
      · exact ⟨_, rfl, c3, rfl, rfl, rfl⟩
    rw [etc]
    refine wpAny_bind (wpAny_storeSet_of g0 gd ?_ (by rw [size1, sizeLine_eq]; omega))
    have but : Heap.SameBut S s.heap (s.heap.update S (Obj.putSet es1 tc)) := Heap.SameBut.update ..
    have g1 := store_at (es' := es1) (t' := tc) g0 gd
    generalize s.heap.update S (Obj.putSet es1 tc) = h1 at but g1 ⊢
    have here1 : ∀ g ∈ G1, IsTupleKey knd h1 g.2 g.1 := fun g hg => by
      rcases List.mem_cons.mp (pm.mem_iff.mp hg) with e | hg
      · subst e
        exact key_other hx g0 gd but
      · exact key_other (R.here g hg) g0 gd but
    have led1 : w.params.followText "set-order" = true ∨ tc.led = true := by rw [k3, c5]; exact R.led
    have full1 : tc.fill = G.length + 1 := by rw [k4, c9, List.length_map]
    by_cases tooMany : tc.tooFull = true
    · have grew : (G.length + 1) * 5 ≥ tc.mask * 3 := by
        unfold SetTable.tooFull at tooMany
        rw [decide_eq_true_eq, full1] at tooMany
        exact tooMany
      rw [k2, c4] at grew
      have sizes : (tb.mask = 7 ∧ G.length = 4) ∨ (tb.mask = 31 ∧ G.length = 18) := by
        rcases R.tab.mok with e | e | e
        · exact .inl ⟨e, by omega⟩
        · exact .inr ⟨e, by omega⟩
        · omega
      have cnt1 : tc.place.size = es1.size := by rw [k1.sz, List.length_map, len1, size1]
      have anew : ∀ M, SetTable.sizeAbove (SetTable.grown (G.length + 1)) - 1 = M → MaskOk M → SetTable.sizeAbove (SetTable.grown (G.length + 1)) ≤ 128 → (G.length + 1) * 5 < M * 3 →
          wpAny (model P w) A (setRelay S (SetTable.grown (G.length + 1))) (fun _ s2 => wpAny (model P w) A (pure true) Q E s2) E { s with heap := h1 } := fun M m1 m2 m3 m4 =>
        tset_relay (s := { s with heap := h1 }) g1 ⟨gx.1, gx.2.1, gx.2.2⟩ rfl ents1 cnt1 k1.dm (by rw [size1, k2, c4]; rcases sizes with ⟨a, b⟩ | ⟨a, b⟩ <;> omega) dist1 here1 led1 (by rw [len1]; exact few1) m1 m2 m3 (by rw [len1]; exact m4)
          fun h2 G2 es2 ep2 tb2 but2 R2 pm2 => wpAny_pure (q true h2 G2 es2 ep2 tb2 (but.trans but2) R2 (.inr ⟨mem, pm2.trans pm⟩))
      have relay : wpAny (model P w) A (setRelay S (SetTable.grown (es.size + 1))) (fun _ s2 => wpAny (model P w) A (pure true) Q E s2) E { s with heap := h1 } := by
        rw [len]
        rcases sizes with ⟨_, e2⟩ | ⟨_, e2⟩
        · exact anew 31 (by rw [e2, size_20]) (.inr (.inl rfl)) (by rw [e2, size_20]; decide) (by omega)
        · exact anew 127 (by rw [e2, size_76]) (.inr (.inr rfl)) (by rw [e2, size_76]; decide) (by omega)
      first
        | exact wpAny_bind (wp_if_pos (by simp [tooMany]) relay)
        | exact wp_if_pos (by simp [tooMany]) (wpAny_bind relay)
    · have small : ¬ (G.length + 1) * 5 ≥ tb.mask * 3 := fun z => tooMany (by
        unfold SetTable.tooFull
        rw [decide_eq_true_eq, full1, k2, c4]
        exact z)
      have done : Q true { s with heap := h1 } := q true h1 G1 es1 (ep + 1) tc but ⟨⟨_, g1, ⟨gx.1, gx.2.1, gx.2.2⟩, rfl⟩, ents1, k1, dist1, here1, led1, by rw [len1, k2, c4]; omega, by rw [len1]; exact few1⟩ (.inr ⟨mem, pm⟩)
      first
        | exact wpAny_bind (wp_if_neg (by simp [tooMany]) (wpAny_pure (wpAny_pure done)))
        | exact wp_if_neg (by simp [tooMany]) (wpAny_pure done)
  by_cases pl : ta.plain = true
  · first
      | exact wpAny_bind (wp_if_pos pl (byVal_tup T hx fun by1 => behind by1))
      | exact wp_if_pos pl (wpAny_bind (byVal_tup T hx fun by1 => behind by1))
  · first
      | exact wpAny_bind (wp_if_neg pl (wpAny_pure (behind true)))
      | exact wp_if_neg pl (wpAny_bind (wpAny_pure (behind true)))
      | exact wp_if_neg pl (behind true)
end
end Qt
/-! len(set(xs)), xs a list of tuples of texts. -/
namespace Qt
open PySem PySem.Spec PyProof.Rows L2 Evl PySem.W
section
variable {P : Program} {w : World} {A : Around} {E : Value → Shared → Prop} {s : Shared} {κ : Type} [DecidableEq κ] {knd : PySem.KeyKind P w κ}
/-- what the set holds of the first i things -/
structure Held (gs : List (Addr × List κ)) (i : Nat) (G : List (Addr × List κ)) : Prop where
  from' : ∀ g ∈ G, g ∈ gs.take i
  keys : ∀ k, k ∈ G.map Prod.snd ↔ k ∈ (gs.take i).map Prod.snd
  many : G.length ≤ i
  all : G.length = i ↔ ((gs.take i).map Prod.snd).Nodup
theorem Held.start (gs : List (Addr × List κ)) : Held gs 0 [] := ⟨fun g h => (by cases h), fun k => (by simp), Nat.le_refl _, ⟨fun _ => (by simp), fun _ => rfl⟩⟩
theorem Held.next {gs G G2 : List (Addr × List κ)} {i : Nat} {g : Addr × List κ} (h : Held gs i G) (hg : gs[i]? = some g) (c : g.2 ∈ G.map Prod.snd ∧ G2 = G ∨ g.2 ∉ G.map Prod.snd ∧ G2.Perm (g :: G)) : Held gs (i + 1) G2 := by
  have et : gs.take (i + 1) = gs.take i ++ [g] := by rw [List.take_add_one, hg]; rfl
  have em : (gs.take (i + 1)).map Prod.snd = (gs.take i).map Prod.snd ++ [g.2] := by rw [et, List.map_append]; rfl
  rcases c with ⟨mem, rfl⟩ | ⟨mem, pm⟩
  · refine ⟨fun g' hg' => by rw [et]; exact List.mem_append_left _ (h.from' g' hg'), fun k => ?_, Nat.le_succ_of_le h.many, ?_⟩
    · rw [em, h.keys, List.mem_append]
      exact ⟨.inl, fun z => z.elim id fun z => by rw [List.mem_singleton.mp z]; exact (h.keys _).mp mem⟩
    · rw [em, nodup_snoc]
      have := h.many
      exact ⟨fun z => by omega, fun z => absurd ((h.keys _).mp mem) z.2⟩
  · refine ⟨fun g' hg' => ?_, fun k => ?_, ?_, ?_⟩
    · rw [et]
      rcases List.mem_cons.mp (pm.mem_iff.mp hg') with e | z
      · rw [e]; exact List.mem_append_right _ (List.mem_singleton.mpr rfl)
      · exact List.mem_append_left _ (h.from' g' z)
    · rw [(pm.map Prod.snd).mem_iff, List.map_cons, em, List.mem_cons, List.mem_append, h.keys]
      exact ⟨fun z => z.elim (fun e => .inr (List.mem_singleton.mpr e)) .inl, fun z => z.elim .inr fun e => .inl (List.mem_singleton.mp e)⟩
    · rw [pm.length_eq, List.length_cons]
      exact Nat.succ_le_succ h.many
    · rw [pm.length_eq, List.length_cons, em, nodup_snoc]
      have n1 : g.2 ∉ (gs.take i).map Prod.snd := fun z => mem ((h.keys _).mpr z)
      exact ⟨fun z => ⟨h.all.mp (by omega), n1⟩, fun z => by rw [h.all.mpr z.1]⟩
theorem key_stays {h h2 : Heap} {ks : List κ} {y : Addr} (hy : IsTupleKey knd h ks y) (keep : ∀ b o, h.get? b = some o → h2.get? b = some o) : IsTupleKey knd h2 ks y := by
  obtain ⟨ob, arr, cap, a0, r⟩ := hy
  exact ⟨ob, arr, cap, keep _ _ a0, r⟩
theorem TupSet.moved {h h2 : Heap} {S : Addr} {G : List (Addr × List κ)} {es : Array (Int × Value)} {ep : Nat} {tb : SetTable} (R : TupSet knd h S G es ep tb) (keep : ∀ o, h.get? S = some o → h2.get? S = some o) (here : ∀ g ∈ G, IsTupleKey knd h2 g.2 g.1) : TupSet knd h2 S G es ep tb := by
  obtain ⟨ob, a0, r⟩ := R.obj
  exact ⟨⟨ob, keep _ a0, r⟩, R.ents, R.tab, R.dist, here, R.led, R.room, R.few⟩
theorem TupSet.empty {h : Heap} {S : Addr} (g0 : h.get? S = some (sob w)) : TupSet knd h S [] #[] 0 (.fresh 0 0 (!w.params.followText "set-order")) where
  obj := ⟨_, g0, ⟨rfl, rfl, rfl⟩, rfl⟩
  ents := rfl
  tab := ⟨List.Pairwise.nil, rfl, rfl, .inl rfl, fun x hx => (by cases hx), fun i h j hi => (by simp at hi)⟩
  dist := List.nodup_nil
  here := fun p hp => (by cases hp)
  led := by
    cases e : w.params.followText "set-order"
    · exact .inr (by simp [SetTable.fresh])
    · exact .inl rfl
  room := by
    show 0 * 5 < 7 * 3
    omega
  few := by
    show 0 < 64
    omega
/-- the loop that fills it -/
theorem fills_tups (T : Tame knd) {items : Array Value} (gs : List (Addr × List κ)) {h0 : Heap} (hit : items.toList = gs.map fun g => Value.ref g.1) (hk : ∀ g ∈ gs, IsTupleKey knd h0 g.2 g.1) (few : gs.length < 64) (room : A.units + 3 < cLine) :
    FillsH P w A h0 items fun S h => ∃ G es ep tb, TupSet knd h S G es ep tb ∧ Held gs gs.length G := by
  have cnt : items.size = gs.length := by rw [← Array.length_toList, hit, List.length_map]
  intro A' I fp wr Gs St R W S hS s0 hst hsob keep0 noneS noneW units hR
  have out : S ∉ wr := fun z => hS (W.sub _ z)
  have into : ∀ b ∈ wr, b ∈ S :: wr := fun b hb => List.mem_cons_of_mem _ hb
  have roomI : A'.in1.units < cLine := by omega
  have go : ∀ (k i : Nat) (s : Shared), items.size - i = k → i ≤ items.size → St i s → (∀ b o, h0.get? b = some o → s.heap.get? b = some o) → (∃ G es ep tb, TupSet knd s.heap S G es ep tb ∧ Held gs i G) → Moved (S :: wr) Gs s0 s →
      codeAny (model P w) A' (.builtin "set.update.loop" ⟨[.ref S, .ref I], []⟩) R s := by
    have later : ∀ {s s2 : Shared}, Moved wr Gs s s2 → (∀ b o, h0.get? b = some o → s.heap.get? b = some o) → ∀ b o, h0.get? b = some o → s2.heap.get? b = some o := fun m kp b o e =>
      m.heap b o (fun hb => by rw [noneW b hb] at e; cases e) (kp b o e)
    intro k
    induction k with
    | zero =>
      intro i s ek hi hst kp hG m0
      obtain ⟨G, es, ep, tb, hT, hh⟩ := hG
      obtain rfl : i = items.size := by omega
      refine codeAny_builtin F.entry_set_update_loop ?_
      rw [Around.under_plainId F.plain_set_update_loop _]
      refine wpAny_bind (m := pyNext (.ref I)) (W.done s _ _ hst fun s2 m => ?_)
      have kp2 := later m kp
      show wpAny (model P w) A'.in1 (ret Value.none) _ _ s2
      refine wpAny_pure (hR s2 (Moved.trans W.gtrans m0 (m.mono into)) ⟨G, es, ep, tb, hT.moved (fun o e => m.heap S o out e) fun g hg => key_stays (hk g (List.mem_of_mem_take (hh.from' g hg))) kp2, cnt ▸ hh⟩)
    | succ k ih =>
      intro i s ek hi hst kp hG m0
      obtain ⟨G, es, ep, tb, hT, hh⟩ := hG
      have lt : i < items.size := by omega
      refine codeAny_builtin F.entry_set_update_loop ?_
      rw [Around.under_plainId F.plain_set_update_loop _]
      refine wpAny_bind (m := pyNext (.ref I)) (W.item i s _ _ lt hst fun v s2 hP hst2 m => ?_)
      have kp2 := later m kp
      obtain ⟨g, hg⟩ : ∃ g, gs[i]? = some g := ⟨_, List.getElem?_eq_getElem (by omega)⟩
      obtain rfl : v = .ref g.1 := by
        have z : items.toList[i]? = some v := by rw [Array.getElem?_toList]; exact hP
        rw [hit, List.getElem?_map, hg] at z
        exact (Option.some.inj z).symm
      have hT2 : TupSet knd s2.heap S G es ep tb := hT.moved (fun o e => m.heap S o out e) fun g' hg' => key_stays (hk g' (List.mem_of_mem_take (hh.from' g' hg'))) kp2
      have hx : IsTupleKey knd s2.heap g.2 g.1 := key_stays (hk g (List.mem_of_getElem? hg)) kp2
      refine wpAny_bind (m := holding [Value.ref g.1] (setAdd S (.ref g.1))) (wpAny_holding ?_)
      unfold setAdd
      refine wpAny_holding (wpAny_bind (wpAny_pyHash_tuple roomI hx ?_))
      refine tset_add (s := { s2 with toks := s2.toks + (g.2.length + 1) }) T hT2 hx roomI (by have := hh.many; omega) fun b h2 G2 es2 ep2 tb2 but hT3 c => ?_
      have kp3 : ∀ b o, h0.get? b = some o → h2.get? b = some o := fun b o e => (but.2 b (fun z => by rw [z, noneS] at e; cases e)).trans (kp2 b o e)
      refine wpAny_pure ⟨plainId_quiet F.plain_set_update_loop _, ih (i + 1) _ (by omega) lt (W.frame _ s2 _ _ hst2 (Nat.le_add_right _ _) fun b hb o e => ?_) kp3 ⟨G2, es2, ep2, tb2, hT3, hh.next hg c⟩ (Moved.trans W.gtrans m0 ((m.mono into).then_heap (Nat.le_add_right _ _) fun b o hb e => ?_))⟩
      · rw [but.2 b (fun z : b = S => hS (by rw [← z]; exact hb))]; exact e
      · rw [but.2 b (fun z : b = S => hb (by rw [z]; exact List.mem_cons_self))]; exact e
  exact go items.size 0 s0 rfl (Nat.zero_le _) hst keep0 ⟨[], #[], 0, _, TupSet.empty hsob, Held.start gs⟩ ⟨fun _ _ _ e => e, W.grefl _, rfl, rfl, Nat.le_refl _⟩
end
theorem items_strs {P : Program} {w : World} : ∀ {ks : List Str} {us : List Value}, Vals (ks.map V.str) us → ItemsAre (PySem.strKind P w) ks us
  | [], _, .nil => .nil
  | _ :: _, _, .cons r t => by
    obtain ⟨tk, rfl⟩ := r
    exact .cons (strKind_is _ _ _ _) (items_strs t)
section
variable {X : Cx}
/-- len(set(xs)), xs fewer than 64 tuples of texts -/
def tLenSetT (K : PySem.W.Frag) (ta : TE) : TE := fun σ H Q => ta σ H fun x H1 => ∃ (l : Addr) (gs : List (Addr × List Str)), x = .ref l ∧ SqL K H1 l (gs.map fun g => V.ref g.1) ∧ (∀ g ∈ gs, SqT K H1 g.1 (g.2.map V.str)) ∧ gs.length < 64 ∧
  ∀ n : Nat, n ≤ gs.length → (n = gs.length ↔ (gs.map Prod.snd).Nodup) → Q (.int (n : Int)) H1
theorem key_of {pins : List (Addr × Obj)} {σ : L2.St} {H : Hp} {s : Shared} {b : Addr} {ks : List Str} (I : Inv X pins σ H s) (h : SqT X.K H b (ks.map V.str)) : IsTupleKey (PySem.strKind X.prog X.w) s.heap ks b := by
  obtain ⟨its, rv, ⟨ob, a0, a1, cap, a2⟩, _⟩ := I.tuple h
  exact ⟨ob, _, cap, a0, a1, a2, by simpa using items_strs rv⟩
theorem refs_are : ∀ {gs : List (Addr × List Str)} {us : List Value}, Vals (gs.map fun g => V.ref g.1) us → us = gs.map fun g => Value.ref g.1
  | [], _, .nil => rfl
  | _ :: _, _, .cons r t => by rw [List.map_cons, ← refs_are t]; exact congrArg (· :: _) r
end
end Qt
/-! Comprehensions that make a new thing for each turn; tuple(a new list); all(a new list); len(set(..)) == len(..) of new tuples. -/
namespace Qt
open PySem PySem.Spec PyProof.Rows L2 Evl PySem.W
section
variable {K : PySem.W.Frag} {σ : L2.St} {H : Hp} {tl te tb : TE} {tt : TT} {ta : TA} {D : Ends} {tz : TS}
/-- over a new list -/
theorem ep_lcN {xs : List V} {j : Nat} {vs : List Nat} (f : Nat → Bool) (rep : Nat → V → Hp → Prop) (mono : ∀ i v H1 H2, Tx H1 H2 → rep i v H1 → rep i v H2) (h : EvL tl σ H xs) (hz : xs.length ≤ 40000)
    (hw : ∀ x, wipe ((wipe σ vs).set j (some x)) vs = wipe σ vs) (ht : ∀ (i : Nat) y H1, Ex H H1 → xs[i]? = some y → EvT tt ((wipe σ vs).set j (some y)) H1 (f i))
    (he : ∀ (i : Nat) y H1, Ex H H1 → xs[i]? = some y → f i = true → EvR te ((wipe σ vs).set j (some y)) H1 (rep i)) :
    EvP (tLc (iList K tl) (gName j) tt te vs) σ H (fun ws H2 => Paired (fun v j => rep j v H2) ws (gvn xs.length f)) := fun H0 e Q q => h H0 e _ fun a H1 na e1 ha => ⟨a, rfl, ⟨xs, sq_of ha⟩, fun Dl hD =>
  lc_list (xs := xs) (Pw H1 f rep Dl) ⟨hD, Ex.new hD, [], upd_same, .nil⟩ (fun i H' _ p => sq_of (p.2.1 a _ ha))
    (fun i x H' hi p => ⟨hw x, pw_turn mono p (by have := (List.getElem?_eq_some_iff.mp hi).1; omega) (ht i x H1 (e.trans e1) hi) (fun hf => he i x H1 (e.trans e1) hi hf)⟩)
    (fun H' p => by
      obtain ⟨p1, p2, ws, p3, p4⟩ := p
      exact q Dl H' ws (fresh_back e1 p1) (e1.trans p2) p3 p4)⟩
/-- a new tuple for each turn -/
def repT (ys : Nat → List V) (i : Nat) (v : V) (H : Hp) : Prop := ∃ t, v = .ref t ∧ H t = some (.tup (ys i))
theorem repT_mono (ys : Nat → List V) : ∀ i v H1 H2, Tx H1 H2 → repT ys i v H1 → repT ys i v H2 := fun _ _ _ _ t r => by
  obtain ⟨x, e, h⟩ := r
  exact ⟨x, e, t _ _ h⟩
theorem er_T {te : TE} {ys : Nat → List V} {i : Nat} (h : EvU te σ H (ys i)) : EvR te σ H (repT ys i) := fun H1 e Q q => h H1 e _ fun p H2 np e2 hp => q _ H2 e2 ⟨p, rfl, hp⟩
theorem ltup_of {H : Hp} {ys : Nat → List V} : ∀ {ws : List V} {is : List Nat}, Paired (fun v i => repT ys i v H) ws is → ∃ ts : List Addr, ws = ts.map V.ref ∧ Paired (fun t x => H t = some (.tup x)) ts (is.map ys)
  | _, _, .nil => ⟨[], rfl, .nil⟩
  | _, _, .cons r p => by
    obtain ⟨t, e, h⟩ := r
    obtain ⟨ts, e2, h2⟩ := ltup_of p
    exact ⟨t :: ts, by rw [e, e2]; rfl, .cons h h2⟩
theorem eg_P {te : TE} {ys : Nat → List V} {is : List Nat} (h : EvP te σ H fun ws H2 => Paired (fun v i => repT ys i v H2) ws is) : EvG te σ H (is.map ys) := fun H1 e Q q => h H1 e Q fun p H2 vs np e2 hp r => by
  obtain ⟨ts, e3, h3⟩ := ltup_of r
  exact q p H2 np e2 ⟨ts, by rw [hp, e3], h3⟩
/-- a def that is given a value and a new list, and gives a list of new tuples -/
theorem eg_call1L {sp : Sp} {E : XK} {t1 t2 : TE} {v : V} {xs : List V} {xss : List (List V)} (h1 : Ev t1 σ H v) (h2 : EvL t2 σ H xs)
    (hs : ∀ o G, Ex H G → G o = some (.lst xs) → ∀ (Q : VK) (E : XK), (∀ p H2, G p = none → Ex G H2 → LTup H2 p xss → Q (.ref p) H2) → sp [v, .ref o] G Q E) : EvG (tCall sp [] E (tCons t1 (tCons t2 tNil))) σ H xss := fun H1 e Q q =>
  h1 H1 e _ fun H2 e2 => h2 H2 (e.trans e2) _ fun o H3 no e3 ho => hs o H3 ((e.trans e2).trans e3) ho _ _ fun p H4 np e4 hp => q p H4 (fresh_back (e2.trans e3) np) ((e2.trans e3).trans e4) hp
/-- tuple(a new list) -/
theorem eu_tupOf {xs : List V} (h : EvL te σ H xs) : EvU (tCB (fun xs H Q => ∃ p ys, xs = [.ref p] ∧ ((SqL K H p ys ∧ ∀ l, H l = none → Q (.ref l) (upd H l (.tup ys))) ∨ (SqT K H p ys ∧ Q (.ref p) H))) (tCons te tNil)) σ H xs := fun H1 e Q q =>
  h H1 e _ fun p H2 np e2 hp => ⟨p, xs, rfl, .inl ⟨sq_of hp, fun l nl => q l _ (fresh_back e2 nl) (e2.trans (Ex.new nl)) upd_same⟩⟩
/-- all(a new list) -/
theorem ev_all {bs : List Bool} (h : EvL te σ H (bs.map V.bl)) : Ev (tCB (rAll K) (tCons te tNil)) σ H (.bl (bs.all id)) := fun H1 e Q q =>
  h H1 e _ fun p H2 np e2 hp => ⟨p, bs, rfl, sq_of hp, q H2 e2⟩
theorem given_bl (n : Nat) (b : Nat → Bool) : Evl.given n (fun _ => true) (fun i => V.bl (b i)) = ((List.range n).map b).map V.bl := by
  rw [given_all, List.map_map]
  rfl
/-- keys beside their tuples -/
theorem ltup_keys {H : Hp} {p : Addr} {kss : List (List Str)} (h : LTup H p (kss.map fun k => k.map V.str)) : ∃ gs : List (Addr × List Str), H p = some (.lst (gs.map fun g => V.ref g.1)) ∧ (∀ g ∈ gs, H g.1 = some (.tup (g.2.map V.str))) ∧ gs.map Prod.snd = kss := by
  obtain ⟨ts, h1, h2⟩ := h
  have go : ∀ {ts : List Addr} {kss : List (List Str)}, Paired (fun t x => H t = some (.tup x)) ts (kss.map fun k => k.map V.str) → ∃ gs : List (Addr × List Str), gs.map Prod.fst = ts ∧ gs.map Prod.snd = kss ∧ ∀ g ∈ gs, H g.1 = some (.tup (g.2.map V.str)) := fun {ts} => by
    induction ts with
    | nil =>
      intro kss p
      cases kss with
      | nil => exact ⟨[], rfl, rfl, fun g hg => absurd hg (by simp)⟩
      | cons k kss => cases p
    | cons t ts ih =>
      intro kss p
      cases kss with
      | nil => cases p
      | cons k kss =>
        cases p with
        | cons a b =>
          obtain ⟨gs, e1, e2, e3⟩ := ih b
          refine ⟨(t, k) :: gs, by rw [List.map_cons, e1], by rw [List.map_cons, e2], fun g hg => ?_⟩
          rcases List.mem_cons.mp hg with e | hg
          · rw [e]; exact a
          · exact e3 g hg
  obtain ⟨gs, e1, e2, e3⟩ := go h2
  exact ⟨gs, by rw [h1, ← e1, List.map_map]; rfl, e3, e2⟩
/-- len(set(xs)) == len(xs), xs a list of tuples of texts -/
theorem ev_distinctT {p : Addr} {kss : List (List Str)} (ha : Ev te σ H (.ref p)) (hb : Ev tb σ H (.ref p)) (hx : LTup H p (kss.map fun k => k.map V.str)) (few : kss.length < 64) :
    Ev (tOp rEq (tLenSetT K te) (tCB (fun xs H Q => ∃ x n, xs = [x] ∧ LenV K x H n ∧ Q (.int (n : Int)) H) (tCons tb tNil))) σ H (.bl (decide kss.Nodup)) := fun H1 e Q q => ha H1 e _ fun H2 e2 => by
  obtain ⟨gs, g1, g2, g3⟩ := ltup_keys (hx.ex (e.trans e2))
  have glen : gs.length = kss.length := by rw [← g3, List.length_map]
  refine ⟨p, gs, rfl, sq_of g1, fun g hg => st_of (g2 g hg), by omega, fun n _ hn => hb H2 (e.trans e2) _ fun H3 e3 => ⟨.ref p, gs.length, rfl, .inl ⟨_, sq_of (e3 _ _ g1), by rw [List.length_map]⟩, rfl, ?_⟩⟩
  have z : decide (V.int (n : Int) = V.int (gs.length : Int)) = decide kss.Nodup := by
    refine decide_eq_decide.mpr (Iff.trans ⟨fun h => ?_, fun h => by rw [h]⟩ (g3 ▸ hn))
    injection h with h
    omega
  rw [z]
  exact q H3 (e2.trans e3)
end
section
variable {X : Cx}
theorem cr_allK (K : PySem.W.Frag) (h : X.K = K) (hc : X.calm = true) : CallR X (.builtin "all") (rAll K) := by
  subst h
  exact cr_all hc
/-- len(set(xs)), xs texts, or fewer than 64 tuples of texts -/
def tLenSetA (K : PySem.W.Frag) (ta : TE) : TE := fun σ H Q => ta σ H fun x H1 =>
  (∃ (l : Addr) (xs : List Str), x = .ref l ∧ SqL K H1 l (xs.map V.str) ∧ xs.length ≤ 2000 ∧ ∀ n : Nat, n ≤ xs.length → (n = xs.length ↔ xs.Nodup) → Q (.int (n : Int)) H1) ∨
  (∃ (l : Addr) (gs : List (Addr × List Str)), x = .ref l ∧ SqL K H1 l (gs.map fun g => V.ref g.1) ∧ (∀ g ∈ gs, SqT K H1 g.1 (g.2.map V.str)) ∧ gs.length < 64 ∧
    ∀ n : Nat, n ≤ gs.length → (n = gs.length ↔ (gs.map Prod.snd).Nodup) → Q (.int (n : Int)) H1)
theorem pe_lenSetA {a : Expr} {ta : TE} {p p2 q pos : Pos} (hc : X.calm = true) (hu : X.A.units + 64 < cLine) (hg : Gl X "len") (hm : X.mg "len" = none) (hg2 : Gl X "set") (hm2 : X.mg "set" = none) (ha : PE X a ta)
    (na : starEach [a] X.env = (false, eval a X.env) :: starEach [] X.env := by rfl) : PE X (.Call (.Name "len" p) [.Call (.Name "set" p2) [a] [] q] [] pos) (tLenSetA X.K ta) := by
  refine ⟨fun pins s σ H Q I h => Call_ (ld_blt I hg hm PySem.boot_len (PyProof.Rows.callWith_builtin1 (PyProof.Rows.args_cons (Call_ (ld_blt I hg2 hm2 PyProof.Rows.boot_set ?_)) rfl) rfl rfl))⟩
  refine PyProof.Rows.callWith_type1 (PyProof.Rows.args_cons (thn (ha.run pins s σ H _ I h) fun v s1 hh => PyProof.Rows.args_nil ?_) na) na rfl
  obtain ⟨x, H1, I1, r1, hh⟩ := hh
  rcases hh with ⟨l, xs, rfl, hq, hl, q1⟩ | ⟨l, gs, rfl, hq, hk, few, q1⟩
  · cases r1
    obtain ⟨its, r, pl, hz⟩ := I1.list hq
    refine set_of_list (I1.ok.hd hc) pl.isList (fills_strs (xs := xs) (by simpa using strsAre_of r) (by unfold scanBound; omega)) fun h' tk hS hk => PyProof.Rows.args_nil ?_
    obtain ⟨n, n1, n2, o, es, ep, t, ho, hex, hd, _, _, _, hf, hn⟩ := hS
    have I2 : Inv X pins σ H1 { s1 with heap := h', toks := tk } := I1.kept hk
    exact call_len_set ho hex hd hf (by rw [hn] <;> omega) ⟨.int (n : Int), H1, I2.tok _, ⟨_, by rw [hn]⟩, q1 n n1 n2⟩
  · cases r1
    obtain ⟨its, rv, pl, _⟩ := I1.list hq
    refine set_of_listH (I1.ok.hd hc) pl.isList (fills_tups (A := X.A) tame_str gs (by simpa using refs_are rv) (fun g hg => key_of I1 (hk g hg)) few (by omega)) fun h' tk hS kp => PyProof.Rows.args_nil ?_
    obtain ⟨G, es, ep, tb, hT, hh⟩ := hS
    have cnt := hT.count (s := { s1 with heap := h' })
    have fit := hT.fit (s := { s1 with heap := h' })
    obtain ⟨ob, g0, gx, gd⟩ := hT.obj
    have I2 : Inv X pins σ H1 { s1 with heap := h', toks := tk } := I1.kept kp
    have all := hh.all
    rw [List.take_length] at all
    exact call_len_set g0 gx gd fit (by have := hh.many; omega) ⟨.int ((G.length : Nat) : Int), H1, I2.tok _, ⟨_, by rw [cnt]⟩, q1 G.length hh.many all⟩
end
section
variable {K : PySem.W.Frag} {σ : L2.St} {H : Hp} {te tb : TE}
theorem ev_distinctA {p : Addr} {kss : List (List Str)} (ha : Ev te σ H (.ref p)) (hb : Ev tb σ H (.ref p)) (hx : LTup H p (kss.map fun k => k.map V.str)) (few : kss.length < 64) :
    Ev (tOp rEq (tLenSetA K te) (tCB (fun xs H Q => ∃ x n, xs = [x] ∧ LenV K x H n ∧ Q (.int (n : Int)) H) (tCons tb tNil))) σ H (.bl (decide kss.Nodup)) := fun H1 e Q q => by
  have z := ev_distinctT (K := K) ha hb hx few H1 e Q q
  have ha' := ha H1 e
  refine ha' _ fun H2 e2 => .inr ?_
  obtain ⟨gs, g1, g2, g3⟩ := ltup_keys (hx.ex (e.trans e2))
  have glen : gs.length = kss.length := by rw [← g3, List.length_map]
  refine ⟨p, gs, rfl, sq_of g1, fun g hg => st_of (g2 g hg), by omega, fun n _ hn => hb H2 (e.trans e2) _ fun H3 e3 => ⟨.ref p, gs.length, rfl, .inl ⟨_, sq_of (e3 _ _ g1), by rw [List.length_map]⟩, rfl, ?_⟩⟩
  have z : decide (V.int (n : Int) = V.int (gs.length : Int)) = decide kss.Nodup := by
    refine decide_eq_decide.mpr (Iff.trans ⟨fun h => ?_, fun h => by rw [h]⟩ (g3 ▸ hn))
    injection h with h
    omega
  rw [z]
  exact q H3 (e2.trans e3)
theorem ev_distinctB {l : Addr} {xs : List Str} (ha : Ev te σ H (.ref l)) (hb : Ev tb σ H (.ref l)) (hx : SqL K H l (xs.map V.str)) (hz : xs.length ≤ 2000) :
    Ev (tOp rEq (tLenSetA K te) (tCB (fun xs H Q => ∃ x n, xs = [x] ∧ LenV K x H n ∧ Q (.int (n : Int)) H) (tCons tb tNil))) σ H (.bl (decide xs.Nodup)) := fun H1 e Q q =>
  ha H1 e _ fun H2 e2 => .inl ⟨l, xs, rfl, ex_l (e.trans e2) hx, hz, fun n _ hn => hb H2 (e.trans e2) _ fun H3 e3 => ⟨.ref l, xs.length, rfl, .inl ⟨_, ex_l ((e.trans e2).trans e3) hx, by rw [List.length_map]⟩, rfl, by
    have z : decide (V.int (n : Int) = V.int (xs.length : Int)) = decide xs.Nodup := by
      refine decide_eq_decide.mpr (Iff.trans ⟨fun h => ?_, fun h => ?_⟩ hn)
      · injection h with h
        omega
      · rw [h]
    rw [z]
    exact q H3 (e2.trans e3)⟩⟩
end
end Qt
/-! Comprehensions over zip of two lists; comparing a list of anything with []. -/
namespace Qt
open PySem PySem.Spec PyProof.Rows L2 Evl PySem.W
section
variable {X : Cx}
end
section
variable {K : PySem.W.Frag} {σ : L2.St} {H : Hp} {tl te tb : TE} {t : TT} {ta : TA}
end
end Qt
/-! zip of a list and a list or a tuple. -/
namespace Qt
open PySem PySem.Spec PyProof.Rows L2 Evl
/-- the items of a list beside those of a tuple, in new pairs -/
def ItzB (K : PySem.W.Frag) (a b : Addr) : It := ⟨fun i H => ∃ xs ys, SqL K H a xs ∧ SqT K H b ys ∧ i < min xs.length ys.length,
  fun i H v H' => ∃ (T : Addr) (x y : V), v = .ref T ∧ H T = none ∧ H' = upd H T (.tup [x, y]) ∧ (∀ xs, SqL K H a xs → xs[i]? = some x) ∧ ∀ ys, SqT K H b ys → ys[i]? = some y, fun i H => ∃ xs ys, SqL K H a xs ∧ SqT K H b ys ∧ i = min xs.length ys.length⟩
def AtZipB (a b z TI TO i1 i2 : Addr) (i : Nat) (h : Heap) : Prop := IsZip h z TI TO .none ∧ IsTupOf2 h TI (.ref i1) (.ref i2) ∧ (∃ a1 a2, IsTupOf2 h TO a1 a2) ∧ h.IsListIter i1 a i ∧ h.IsTupleIter i2 b i
theorem turn_zipB {P : Program} {w : World} {K : PySem.W.Frag} {elts : List Expr} {kk : Nat} {tpos : Pos} {a b z TI TO i1 i2 : Addr} (D : ZipSep2 z TI TO i1 i2 [i1, a] [i2, b]) (ha1 : a ≠ i1) (hb2 : b ≠ i2) :
    Turn P w K (.Tuple elts kk tpos) (ItzB K a b) [z, TI, TO, i1, i2] z (fun i h => AtZipB a b z TI TO i1 i2 i h) where
  mem := by simp
  obj := fun i h st c hc => by
    obtain ⟨hz, hTI, ⟨a, b, hTO⟩, ⟨o1, e1, _, d1⟩, ⟨o2, e2, _, d2⟩⟩ := st
    have e' : c = z ∨ c = TI ∨ c = TO ∨ c = i1 ∨ c = i2 := by simpa using hc
    rcases e' with q | q | q | q | q
    · rw [q]; exact ⟨_, hz, fun v q => nomatch q⟩
    · rw [q]; exact ⟨_, hTI, fun v q => nomatch q⟩
    · rw [q]; exact ⟨_, hTO, fun v q => nomatch q⟩
    · rw [q]; exact ⟨o1, e1, fun v q => by rw [d1] at q; cases q⟩
    · rw [q]; exact ⟨o2, e2, fun v q => by rw [d2] at q; cases q⟩
  keep := fun i h h' st k => by
    obtain ⟨hz, hTI, ⟨a, b, hTO⟩, h1, h2⟩ := st
    exact ⟨k z (by simp) _ hz, k TI (by simp) _ hTI, ⟨a, b, k TO (by simp) _ hTO⟩, h1.at fun o q => k i1 (by simp) o q, h2.at fun o q => k i2 (by simp) o q⟩
  item := by
    intro X hP hw hK hc i pins s σ H E I hf st hg
    subst hP hw hK
    obtain ⟨xs, ys, hqx, hq, hlt⟩ := hg
    obtain ⟨its1, rv1, p1, _⟩ := I.list hqx
    obtain ⟨its, rv, p, _⟩ := I.tuple hq
    have hlen1 := rv1.length
    have hlen := rv.length
    have W := WalksT.zipD2 D (Draws.list (prog := X.prog) (w := X.w) (A := X.A.in1) (I.ok.hd hc) i1 a ha1 its1.toArray) (Draws.tuple (prog := X.prog) (w := X.w) (A := X.A.in1) (I.ok.hd hc) i2 b hb2 its.toArray)
    have live : ∀ c ∈ [z, TI, TO, i1, i2], c < s.heap.objs.size := fun c hb => by
      obtain ⟨hz, hTI, ⟨a, b', hTO⟩, ⟨o1, e1, _, d1⟩, ⟨o2, e2, _, d2⟩⟩ := st
      have e' : c = z ∨ c = TI ∨ c = TO ∨ c = i1 ∨ c = i2 := by simpa using hb
      rcases e' with q | q | q | q | q
      · rw [q]; exact Heap.lt_size hz
      · rw [q]; exact Heap.lt_size hTI
      · rw [q]; exact Heap.lt_size hTO
      · rw [q]; exact Heap.lt_size e1
      · rw [q]; exact Heap.lt_size e2
    obtain ⟨s1, s2, s3, s4, s5⟩ := st
    refine W.item i s _ _ (by simp only [List.size_toArray]; omega) ⟨s1, s2, s3, ⟨s4, p1.isList⟩, s5, p⟩ fun T vals h' tk hp hT ht hm hk => ?_
    obtain ⟨v1, v2, hdx, hdy, rfl⟩ := hp
    have hix : i < xs.length := by omega
    have hiy : i < ys.length := by omega
    obtain ⟨u1, hu1, ru1⟩ := rv1.get (i := i) (x := xs[i]) (by rw [List.getElem?_eq_getElem hix])
    obtain ⟨u, hu, ru⟩ := rv.get (i := i) (x := ys[i]) (by rw [List.getElem?_eq_getElem hiy])
    obtain rfl : u1 = v1 := by
      have z : its1[i]? = some v1 := by simpa using hdx
      rw [hu1] at z
      exact Option.some.inj z
    obtain rfl : u = v2 := by
      have z : its[i]? = some v2 := by simpa using hdy
      rw [hu] at z
      exact Option.some.inj z
    refine ⟨.ref T, rfl, W.go elts kk tpos i T { s with heap := h', toks := tk } _ _ hm fun h'' hst hk2 => ?_⟩
    obtain ⟨oT, hT1, hT2, nT, hT3⟩ := ht
    have nT' : T ∉ [z, TO, i1, i2] := W.apart i T _ hm
    have hT4 : h''.get? T = some oT := hk2 T oT nT' hT1
    have new : ObjOk X.prog X.w (upd H T (.tup [xs[i], ys[i]])) h'' T (.tup [xs[i], ys[i]]) :=
      ⟨by show 2 ≤ sizeLine; decide, [u1, u], .cons ru1 (.cons ru .nil), ⟨_, hT4, hT2, _, hT3⟩⟩
    have sub : ∀ b, b ∉ [z, TI, TO, i1, i2] → b ∉ [z, TO, i1, i2] := fun b hb h => hb (by
      have e' : b = z ∨ b = TO ∨ b = i1 ∨ b = i2 := by simpa using h
      rcases e' with q | q | q | q <;> simp [q])
    have I1 : Inv X pins σ (upd H T (.tup [xs[i], ys[i]])) { s with heap := h'', toks := tk } :=
      I.turnedNew (ch := [z, TI, TO, i1, i2]) (fun b ob hb q => hk2 b ob (sub b hb) (hk b ob (sub b hb) q)) hf hT new
    obtain ⟨r1, r2, r3, ⟨r4, _⟩, r5, _⟩ := hst
    refine ⟨.ref T, _, I1, rfl, ⟨T, xs[i], ys[i], rfl, I.hok.fresh hT, rfl, fun l hl => by rw [I.list_inj hl hqx, List.getElem?_eq_getElem hix], fun l hl => by rw [I.tuple_inj hl hq, List.getElem?_eq_getElem hiy]⟩, ⟨r1, r2, r3, r4, r5⟩, fun b hb => ?_⟩
    rw [upd_ne (Nat.ne_of_lt (Nat.lt_of_lt_of_le (live b hb) hT))]
    exact (hf b hb).1
  done := by
    intro X hP hw hK hc i pins s σ H E I hf st hg
    subst hP hw hK
    obtain ⟨xs, ys, hqx, hq, hi⟩ := hg
    obtain ⟨its1, rv1, p1, _⟩ := I.list hqx
    obtain ⟨its, rv, p, _⟩ := I.tuple hq
    have hlen1 := rv1.length
    have hlen := rv.length
    have W := WalksT.zipD2 D (Draws.list (prog := X.prog) (w := X.w) (A := X.A.in1) (I.ok.hd hc) i1 a ha1 its1.toArray) (Draws.tuple (prog := X.prog) (w := X.w) (A := X.A.in1) (I.ok.hd hc) i2 b hb2 its.toArray)
    obtain ⟨s1, s2, s3, s4, s5⟩ := st
    have e : min its1.toArray.size its.toArray.size = i := by simp only [List.size_toArray]; omega
    have sub : ∀ b, b ∉ [z, TI, TO, i1, i2] → b ∉ [z, TO, i1, i2] := fun b hb h => hb (by
      have e' : b = z ∨ b = TO ∨ b = i1 ∨ b = i2 := by simpa using h
      rcases e' with q | q | q | q <;> simp [q])
    rw [← e] at s4 s5
    exact W.done s _ _ ⟨s1, s2, s3, ⟨s4, p1.isList⟩, s5, p⟩ fun h' tk hk => ⟨rfl, I.turnedL (t' := tk) (ch := [z, TI, TO, i1, i2]) (fun c o hb q => hk c o (sub c hb) q) hf⟩
  self := fun A i s Q E st h => wpAny_pyIter_zip st.1 h
/-- zip of a list and of what is a list or a tuple -/
def iZipB (K : PySem.W.Frag) (ta : TA) : TI := fun σ H R => ta σ H fun vs H1 => ∃ a b xs ys, vs = [.ref a, .ref b] ∧ SqL K H1 a xs ∧ ((SqL K H1 b ys ∧ R (Itz K a b) H1) ∨ (SqT K H1 b ys ∧ R (ItzB K a b) H1))
theorem pi_zipB {X : Cx} {e e2 : Expr} {ta : TA} {p pos tpos : Pos} {elts : List Expr} {kk : Nat} (hg : Gl X "zip") (hm : X.mg "zip" = none) (ha : PA X [e, e2] ta)
    (hs : starEach [e, e2] X.env = (false, eval e X.env) :: starEach [e2] X.env := by rfl) (hpl : (backTo pos (starEach [e2] X.env)).any (·.1) = false := by rfl) :
    PI X (.Tuple elts kk tpos) (.Call (.Name "zip" p) [e, e2] [] pos) (iZipB X.K ta) := by
  refine ⟨fun pins s σ H R I h => ?_⟩
  refine Call_ (ld_blt I hg hm PyProof.Rows.boot_zip (PyProof.Rows.callWith_type1 (thn (ha.run pos pins s σ H _ I h) fun us s1 hh => ?_) hs hpl))
  obtain ⟨vs, H1, I1, r1, a, b, xs, ys, ex, hqx, q1⟩ := hh
  subst ex
  cases r1 with
  | cons r rr =>
    cases rr with
    | cons r' rr =>
      cases rr
      cases r
      cases r'
      have fresh5 : ∀ c, c ∈ [s1.heap.objs.size + 4, s1.heap.objs.size + 2, s1.heap.objs.size + 3, s1.heap.objs.size, s1.heap.objs.size + 1] → FpOk X pins H1 c := fun c hcm => by
        have e' : c = s1.heap.objs.size + 4 ∨ c = s1.heap.objs.size + 2 ∨ c = s1.heap.objs.size + 3 ∨ c = s1.heap.objs.size ∨ c = s1.heap.objs.size + 1 := by simpa using hcm
        have hle : s1.heap.objs.size ≤ c := by
          rcases e' with z | z | z | z | z
          · rw [z]; exact Nat.le_add_right _ _
          · rw [z]; exact Nat.le_add_right _ _
          · rw [z]; exact Nat.le_add_right _ _
          · rw [z]; exact Nat.le_refl _
          · rw [z]; exact Nat.le_add_right _ _
        exact I1.fpOk hle (I1.hok.fresh hle)
      obtain ⟨its, rv, p1, _⟩ := I1.list hqx
      rcases q1 with ⟨hq, q⟩ | ⟨hq, q⟩
      · obtain ⟨its2, rv2, p2, _⟩ := I1.list hq
        refine call_zip_2 p1.isList p2.isList fun h' hz hTI hTO h1 h2 hsz hk => wpAny_pyIter_zip hz ?_
        have I2 : Inv X pins σ H1 { s1 with heap := h' } := I1.kept (t' := s1.toks) hk
        exact ⟨s1.heap.objs.size + 4, [s1.heap.objs.size + 4, s1.heap.objs.size + 2, s1.heap.objs.size + 3, s1.heap.objs.size, s1.heap.objs.size + 1], _, _, H1, rfl, I2, turn_zip (PySem.W.ktu_apart s1.heap.objs.size a b p1.lt p2.lt), ⟨hz, hTI, ⟨_, _, hTO⟩, h1, h2⟩, fresh5, q⟩
      · obtain ⟨its2, rv2, pl, _⟩ := I1.tuple hq
        have hal : a < s1.heap.objs.size := p1.lt
        have hbl : b < s1.heap.objs.size := by
          obtain ⟨o, ho, _⟩ := id pl
          exact Heap.lt_size ho
        refine zip_begins2 (begins_list a its.toArray) (begins_tuple b its2.toArray) p1.isList pl fun h' hz hTI hTO g1 g2 hsz hk => wpAny_pyIter_zip hz ?_
        have I2 : Inv X pins σ H1 { s1 with heap := h' } := I1.kept (t' := s1.toks) hk
        have D : ZipSep2 (s1.heap.objs.size + 4) (s1.heap.objs.size + 2) (s1.heap.objs.size + 3) s1.heap.objs.size (s1.heap.objs.size + 1) [s1.heap.objs.size, a] [s1.heap.objs.size + 1, b] :=
          zip_sep2 (fun c hc => by rw [List.mem_singleton.mp hc]; exact hal) (fun c hc => by rw [List.mem_singleton.mp hc]; exact hbl)
        exact ⟨s1.heap.objs.size + 4, [s1.heap.objs.size + 4, s1.heap.objs.size + 2, s1.heap.objs.size + 3, s1.heap.objs.size, s1.heap.objs.size + 1], _, _, H1, rfl, I2, turn_zipB D (Nat.ne_of_lt hal) (Nat.ne_of_lt (Nat.lt_succ_of_lt hbl)), ⟨hz, hTI, ⟨_, _, hTO⟩, ⟨_, g1, rfl, rfl⟩, ⟨_, g2, rfl, rfl⟩⟩, fresh5, q⟩
theorem pi_zipBK (K : PySem.W.Frag) {X : Cx} (h : X.K = K) {e e2 : Expr} {ta : TA} {p pos tpos : Pos} {elts : List Expr} {kk : Nat} (hg : Gl X "zip") (hm : X.mg "zip" = none) (ha : PA X [e, e2] ta)
    (hs : starEach [e, e2] X.env = (false, eval e X.env) :: starEach [e2] X.env := by rfl) (hpl : (backTo pos (starEach [e2] X.env)).any (·.1) = false := by rfl) :
    PI X (.Tuple elts kk tpos) (.Call (.Name "zip" p) [e, e2] [] pos) (iZipB K ta) := h ▸ pi_zipB hg hm ha hs hpl
theorem walk_zipB {K : PySem.W.Frag} {a b : Addr} {xs ys : List V} {n : Nat} (hn : n = min xs.length ys.length) : Walk (ItzB K a b) n (fun H => SqL K H a xs ∧ SqT K H b ys) (YPair (fun i => xs[i]?) (fun i => ys[i]?)) := by
  subst hn
  refine ⟨fun i _ hi q => ⟨xs, ys, q.1, q.2, hi⟩, fun _ q => ⟨xs, ys, q.1, q.2, rfl⟩, fun i H v H' _ q y => ?_⟩
  obtain ⟨T, x, z, h1, h2, h3, h4, h5⟩ := y
  exact ⟨T, x, z, h1, h2, h3, h4 xs q.1, h5 ys q.2⟩
section
variable {K : PySem.W.Frag} {σ : L2.St} {H : Hp} {tl te tb : TE} {t : TT} {ta : TA}
/-- over zip of a list and of a list or tuple, of one length -/
theorem el_lcZB {a b : Addr} {xs ys : List V} {j k : Nat} {vs : List Nat} (f : Nat → Bool) (v : Nat → V) (h : EvA ta σ H [.ref a, .ref b]) (hx : SqL K H a xs) (hy : SqA K H b ys) (hl : ys.length = xs.length) (hz : xs.length ≤ 40000)
    (hw : ∀ x y, wipe (((wipe σ vs).set j (some x)).set k (some y)) vs = wipe σ vs)
    (ht : ∀ (i : Nat) x y H1, Ex H H1 → xs[i]? = some x → ys[i]? = some y → EvT t (((wipe σ vs).set j (some x)).set k (some y)) H1 (f i))
    (he : ∀ (i : Nat) x y H1, Ex H H1 → xs[i]? = some x → ys[i]? = some y → f i = true → Ev te (((wipe σ vs).set j (some x)).set k (some y)) H1 (v i)) :
    EvL (tLc (iZipB K ta) (gTup K 2 (gCons (gName j) (gCons (gName k) gNil))) t te vs) σ H (Evl.given xs.length f v) := fun H0 e Q q => h H0 e _ fun H1 e1 => ⟨a, b, xs, ys, rfl, ex_l (e.trans e1) hx, by
  rcases hy with hy | hy
  · refine .inl ⟨sq_of ((e.trans e1) _ _ hy), fun Dl hD => ?_⟩
    refine lc_it (walk_zip (xs := xs) (ys := ys) (n := xs.length) (by omega)) (Cw H1 f v Dl) ⟨hD, Ex.new hD, upd_same⟩ (fun _ _ _ p => ⟨ex_l p.2.1 (ex_l (e.trans e1) hx), sq_of (p.2.1 _ _ ((e.trans e1) _ _ hy))⟩) (fun i z H2 H' hi p y' => ?_) (fun H' p => q Dl H' (fresh_back e1 p.1) (e1.trans p.2.1) p.2.2)
    obtain ⟨T, x, y, rfl, nT, rfl, hxi, hyi⟩ := y'
    obtain ⟨p1, p2, p3⟩ := p
    have nTD : Dl ≠ T := ne_of_none p3 nT
    have p' : Cw H1 f v Dl i (upd H2 T (.tup [x, y])) := ⟨p1, p2.trans (Ex.new nT), by rw [upd_ne nTD]; exact p3⟩
    refine ⟨T, _, rfl, st_of upd_same, rfl, _, _, rfl, _, _, rfl, rfl, ?_⟩
    exact ⟨hw _ _, cw_turn p' (by omega) (ht i x y H1 (e.trans e1) hxi hyi) (fun hf => he i x y H1 (e.trans e1) hxi hyi hf)⟩
  · refine .inr ⟨st_of ((e.trans e1) _ _ hy), fun Dl hD => ?_⟩
    refine lc_it (walk_zipB (xs := xs) (ys := ys) (n := xs.length) (by omega)) (Cw H1 f v Dl) ⟨hD, Ex.new hD, upd_same⟩ (fun _ _ _ p => ⟨ex_l p.2.1 (ex_l (e.trans e1) hx), st_of (p.2.1 _ _ ((e.trans e1) _ _ hy))⟩) (fun i z H2 H' hi p y' => ?_) (fun H' p => q Dl H' (fresh_back e1 p.1) (e1.trans p.2.1) p.2.2)
    obtain ⟨T, x, y, rfl, nT, rfl, hxi, hyi⟩ := y'
    obtain ⟨p1, p2, p3⟩ := p
    have nTD : Dl ≠ T := ne_of_none p3 nT
    have p' : Cw H1 f v Dl i (upd H2 T (.tup [x, y])) := ⟨p1, p2.trans (Ex.new nT), by rw [upd_ne nTD]; exact p3⟩
    refine ⟨T, _, rfl, st_of upd_same, rfl, _, _, rfl, _, _, rfl, rfl, ?_⟩
    exact ⟨hw _ _, cw_turn p' (by omega) (ht i x y H1 (e.trans e1) hxi hyi) (fun hf => he i x y H1 (e.trans e1) hxi hyi hf)⟩⟩
end
end Qt
namespace Qt
open PySem PySem.Spec PyProof.Rows L2 Evl
section
variable {X : Cx} {C g : Addr} {k : Nat} {fd : FuncData} {ps : List Str} {sp : Sp}
/-- len(o), o of an own class that says its length -/
def rLenO (C : Addr) (sp : Sp) : List V → Hp → VK → Prop := fun xs H Q => ∃ a dx fs, xs = [.ref a] ∧ H a = some (.ins C dx fs) ∧ sp [.ref a] H (fun v H' => ∃ n : Nat, v = .int (n : Int) ∧ n < 2 ^ 63 ∧ Q v H') E0
theorem call_lenO (c : PySem.W.findIn X.K (.ref C) "__len__" = some (some (.ref g))) (hf : PySem.W.isFn X.K (.ref g) = true) (F : FnOk X.prog X.w X.K X.mg X.base CX0 k g fd ps sp) (hr : Room (k + 1) X.A) (hb : L2.Binds X.K fd ps []) : CallR X (.builtin "len") (rLenO C sp) := by
  intro pins s σ H xs us Q I r h
  obtain ⟨a, dx, fs, rfl, ea, q⟩ := h
  cases r with
  | cons rx rr =>
    cases rr
    obtain rfl : _ = Value.ref a := rx
    obtain ⟨mA, O, _⟩ := ins_get I.hok ea
    obtain ⟨od, J, _⟩ := O.look
    obtain ⟨m, Fm⟩ := I.fr
    have hl : ([Value.ref a] ++ []).length = ps.length := F.len _ _ _ _ q
    refine PySem.W.len_K Fm I.ok.mod.kin J c hf ?_
    refine wpAny_call (codeAny_mono (F.run X.A.in1 X.stack s H ⟨[.ref a], []⟩ [.ref a] [.ref a] _ E0 hr.in1 I.env0.in1 (hb _ [.ref a] I.kIn hl) (.cons rfl .nil) q) fun r s' hq => ?_)
    cases r with
    | error er => exact pass0 pins σ H s er s' I hq
    | ok fl =>
      cases fl with
      | ret u =>
        obtain ⟨v, H', I3, rv, n, rfl, hn, q3⟩ := I.after hq
        obtain ⟨t, rfl⟩ := rv
        exact ⟨⟨by omega, by omega⟩, .int (n : Int), H', I3.tok _, ⟨_, rfl⟩, q3⟩
      | next => exact False.elim hq
      | brk => exact False.elim hq
      | cont => exact False.elim hq
/-- o.m(..) within a suite: what may come out goes to the handlers -/
def tMethE (C : Addr) (m : Str) (sp : Sp) (E : L2.St → XK) (ta : TE) (t : TA) : TE := fun σ H Q => ta σ H fun x H1 => ∃ a dx fs, x = .ref a ∧ H1 a = some (.ins C dx fs) ∧ fs.lookup m = none ∧ t σ H1 fun vs H2 => sp (x :: vs) H2 Q (E σ)
end
/-- a property of an own class stands in the written part -/
def PropAt (K : PySem.W.Frag) (C : Addr) (n q : Str) (st : Stmt) : Prop := ∃ p g, PySem.W.findIn K (.ref C) n = some (some (.ref p)) ∧ PySem.W.specialIn K (.ref p) "__get__" = some (some (.builtin "property.__get__")) ∧ PySem.W.takesIn K (.ref p) = some true ∧ (∃ rest, PySem.W.recIn K p "property" = some (.ref g :: rest)) ∧ FnAt K g n q st
def PropC (K : PySem.W.Frag) (C : Addr) (n q : Str) (st : Stmt) (ps : List Str) : Prop := ∃ p g fd, PropOf K C n p g ∧ Fun K n q st g fd ∧ L2.Binds K fd ps []
end Qt
namespace Qt
open PySem PySem.Spec PyProof.Rows L2 Evl
theorem rng_vals : ∀ (n : Nat) (acc : List Value), acc.length = n → (∀ (j : Nat) v, acc[j]? = some v → ∃ t, v = .int ((0 : Int) + j * 1) t) → Vals ((List.range n).map fun i : Nat => V.int (i : Int)) acc := by
  intro n acc hl h
  have go : ∀ (k : Nat) (l : List Value), (∀ (j : Nat) v, l[j]? = some v → ∃ t, v = .int (((k + j : Nat) : Int)) t) → Vals ((List.range' k l.length).map fun i : Nat => V.int (i : Int)) l := by
    intro k l
    induction l generalizing k with
    | nil => intro _; exact .nil
    | cons x l ih =>
      intro h
      obtain ⟨t, e⟩ := h 0 x rfl
      rw [List.length_cons, List.range'_succ, List.map_cons]
      exact .cons ⟨t, by rw [e]; rfl⟩ (ih (k + 1) fun j v hv => by
        obtain ⟨t, e⟩ := h (j + 1) v (by simpa using hv)
        exact ⟨t, by rw [e]; congr 2; omega⟩)
  have z := go 0 acc fun j v hv => by
    obtain ⟨t, e⟩ := h j v hv
    exact ⟨t, by rw [e]; congr 1; omega⟩
  rw [hl, ← List.range_eq_range'] at z
  exact z
section
variable {X : Cx}
/-- list(range(n)) -/
theorem call_list_rng (hc : X.calm = true) : CallR X (.type "list") (fun xs H Q => ∃ (p : Addr) (n : Nat), xs = [.ref p] ∧ H p = some (.rng 0 (n : Int)) ∧ n ≤ 100000 ∧ ∀ l, H l = none → Q (.ref l) (upd H l (.lst ((List.range n).map fun i : Nat => V.int (i : Int))))) := by
  intro pins s σ H xs us Q I r h
  obtain ⟨p, n, rfl, hp, hn, q⟩ := h
  cases r with
  | cons rx rr =>
    cases rr
    obtain rfl : _ = Value.ref p := rx
    obtain ⟨t, u, v, ho⟩ := I.hok p _ hp
    refine call_list_range (n := n) (I.ok.hd hc) ho (small_one (by decide) (by decide) (by omega) (by omega)) (by rw [rangeSize_one]; split <;> omega) (by omega) fun h' tk acc c' keep hS hacc => ?_
    obtain ⟨hsz, hit⟩ := hacc
    exact ⟨.ref s.heap.objs.size, _, I.laid (t' := tk) (o := .lst ((List.range n).map fun i : Nat => V.int (i : Int))) keep (Nat.le_refl _) ⟨by rw [List.length_map, List.length_range, sizeLine_eq]; omega, acc.toList, c', rng_vals n acc.toList (by simpa using hsz) (fun j v hv => hit j v (by simpa using hv)), by simpa using hS⟩, rfl, q _ (I.hok.fresh (Nat.le_refl _))⟩
end
end Qt
/-! dicts whose keys are tuples that hold tuples, all of whose values are True: {}, d[k] = True, list(d). -/
namespace Qt
open PySem PySem.Spec PyProof.Rows L2 Evl
mutual
/-- the value is a key, by what is tracked -/
inductive TK (H : Hp) : NestedKey → V → Prop
  | num (i : Int) : TK H (.num i) (.int i)
  | text (x : Str) : TK H (.text x) (.str x)
  | tup {a : Addr} {vs : List V} {ks : List NestedKey} : H a = some (.tup vs) → TKs H ks vs → TK H (.tup ks) (.ref a)
inductive TKs (H : Hp) : List NestedKey → List V → Prop
  | nil : TKs H [] []
  | cons {k : NestedKey} {v : V} {ks : List NestedKey} {vs : List V} : TK H k v → TKs H ks vs → TKs H (k :: ks) (v :: vs)
end
mutual
theorem TK.ex {H H1 : Hp} (e : ∀ b xs, H b = some (.tup xs) → H1 b = some (.tup xs)) : ∀ (k : NestedKey) (v : V), TK H k v → TK H1 k v
  | .none, _, h => by cases h
  | .num i, _, h => by cases h; exact .num i
  | .text x, _, h => by cases h; exact .text x
  | .tup ks, _, h => by
    cases h with
    | tup h1 h2 => exact .tup (e _ _ h1) (TKs.ex e ks _ h2)
theorem TKs.ex {H H1 : Hp} (e : ∀ b xs, H b = some (.tup xs) → H1 b = some (.tup xs)) : ∀ (ks : List NestedKey) (vs : List V), TKs H ks vs → TKs H1 ks vs
  | [], _, h => by cases h; exact .nil
  | k :: ks, _, h => by
    cases h with
    | cons h1 h2 => exact .cons (TK.ex e k _ h1) (TKs.ex e ks _ h2)
end
mutual
theorem TK.is {P : Program} {w : World} {H : Hp} {h : Heap} (ok : HOk P w H h) : ∀ (k : NestedKey) (v : V) (u : Value), TK H k v → RelV v u → NestedIs h k u
  | .none, _, _, x, _ => by cases x
  | .num i, _, _, x, r => by
    cases x
    obtain ⟨t, rfl⟩ := r
    exact .int i t
  | .text s, _, _, x, r => by
    cases x
    obtain ⟨t, rfl⟩ := r
    exact .text s t
  | .tup ks, _, _, x, r => by
    cases x with
    | tup h1 h2 =>
      cases r
      obtain ⟨_, its, rv, ob, e1, e2, n, e3⟩ := (show ObjOk P w H h _ (.tup _) from ok _ _ h1)
      exact .tup e1 e2 e3 (by simpa using TKs.is ok ks _ _ h2 rv)
theorem TKs.is {P : Program} {w : World} {H : Hp} {h : Heap} (ok : HOk P w H h) : ∀ (ks : List NestedKey) (vs : List V) (us : List Value), TKs H ks vs → Vals vs us → NestedAll h ks us
  | [], _, _, x, r => by
    cases x
    cases r
    exact .nil
  | k :: ks, _, _, x, r => by
    cases x with
    | cons h1 h2 =>
      cases r with
      | cons r1 r2 => exact .cons (TK.is ok k _ _ h1 r1) (TKs.is ok ks _ _ h2 r2)
end
/-- keys and the tuples that they are -/
abbrev NEs := List (NestedKey × Addr)
def trp (x : NestedKey × Addr) : NestedKey × Addr × Value := (x.1, x.2, .bool true)
/-- at a: a dict of such keys, each with True -/
def ND (P : Program) (w : World) (a : Addr) (xs : NEs) : HO := .ext fun h => (a == sysModules) = false ∧ xs.length ≤ sizeLine ∧
  ∃ o es ep, h.get? a = some o ∧ o.ExactDict ∧ o.data = .dict es ep ∧ es.toList = (xs.map trp).map (entryOfKey (nestedKind P w)) ∧ (xs.map (·.1)).Nodup
def NKs (H : Hp) (xs : NEs) : Prop := ∀ x ∈ xs, TK H x.1 (.ref x.2) ∧ x.1.depth ≤ 8
def putN (xs : NEs) (k : NestedKey) (b : Addr) : NEs := if k ∈ xs.map (·.1) then xs else xs ++ [(k, b)]
theorem NKs.ex {H H1 : Hp} {xs : NEs} (h : NKs H xs) (e : ∀ b ys, H b = some (.tup ys) → H1 b = some (.tup ys)) : NKs H1 xs := fun x hx => ⟨(h x hx).1.ex e, (h x hx).2⟩
theorem putN_len (xs : NEs) (k : NestedKey) (b : Addr) : (putN xs k b).length ≤ xs.length + 1 := by
  unfold putN
  split
  · omega
  · rw [List.length_append]; simp
theorem NKs.put {H : Hp} {xs : NEs} {k : NestedKey} {b : Addr} (h : NKs H xs) (hk : TK H k (.ref b)) (hd : k.depth ≤ 8) : NKs H (putN xs k b) := by
  unfold putN
  split
  · exact h
  · intro x hx
    rcases List.mem_append.mp hx with hx | hx
    · exact h x hx
    · rw [List.mem_singleton.mp hx]
      exact ⟨hk, hd⟩
theorem atKey_trp (k : NestedKey) : ∀ xs : NEs, (atKey (xs.map trp) k).isSome = decide (k ∈ xs.map (·.1))
  | [] => rfl
  | x :: r => by
    have ih := atKey_trp k r
    unfold atKey at ih ⊢
    rw [List.map_cons, List.find?_cons]
    by_cases e : x.1 = k
    · rw [decide_eq_true (show (trp x).1 = k from e)]
      exact (decide_eq_true (by rw [List.map_cons, e]; exact List.mem_cons_self)).symm
    · rw [decide_eq_false (show ¬ (trp x).1 = k from e)]
      dsimp only
      rw [ih]
      exact decide_eq_decide.mpr (by rw [List.map_cons, List.mem_cons]; exact ⟨.inr, fun h => h.resolve_left (fun z => e z.symm)⟩)
theorem stored_trp (xs : NEs) (k : NestedKey) (b : Addr) : storedH (xs.map trp) k b (.bool true) = (putN xs k b).map trp := by
  unfold storedH putN
  rw [atKey_trp]
  by_cases h : k ∈ xs.map (·.1)
  · rw [decide_eq_true h, if_pos rfl, if_pos h, List.map_map]
    refine List.map_congr_left fun x _ => ?_
    show putAt k (.bool true) (trp x) = trp x
    unfold putAt trp
    split <;> rfl
  · rw [decide_eq_false h, if_neg (by decide), if_neg h, List.map_append]
    rfl
section
variable {P : Program} {w : World} {H : Hp} {h : Heap} {a : Addr} {xs : NEs}
theorem nd_of (ok : HOk P w H h) (e : H a = some (ND P w a xs)) (hk : NKs H xs) : (a == sysModules) = false ∧ xs.length ≤ sizeLine ∧ h.DictOfH (nestedKind P w) a (xs.map trp) := by
  obtain ⟨⟨h1, h2, o, es, ep, g1, g2, g3, g4, g5⟩, _⟩ := (show ObjOk P w H h a (ND P w a xs) from ok _ _ e)
  refine ⟨h1, h2, o, es, ep, g1, g2, g3, g4, fun x hx => ?_, by rw [List.map_map]; exact g5⟩
  obtain ⟨y, hy, rfl⟩ := List.mem_map.mp hx
  exact ⟨TK.is ok _ _ _ (hk y hy).1 rfl, (hk y hy).2⟩
theorem nd_mk {H' : Hp} {h' : Heap} (h1 : (a == sysModules) = false) (h2 : xs.length ≤ sizeLine) (d : h'.DictOfH (nestedKind P w) a (xs.map trp)) : ObjOk P w H' h' a (ND P w a xs) := by
  obtain ⟨o, es, ep, g1, g2, g3, g4, g5, g6⟩ := d
  rw [List.map_map] at g6
  exact ⟨⟨h1, h2, o, es, ep, g1, g2, g3, g4, g6⟩, ⟨o, g1⟩, fun k1 k2 ⟨p1, p2, o, es, ep, q1, q2⟩ st => ⟨p1, p2, o, es, ep, st _ q1, q2⟩⟩
end
def tDNewN (P : Program) (w : World) : TE := fun _ H Q => ∀ p, H p = none → Q (.ref p) (upd H p (ND P w p []))
/-- d[k] = v -/
def sDPutN (P : Program) (w : World) (td ty tv : TE) : TS := fun D σ H => tv σ H fun v H1 => td σ H1 fun x H2 => ty σ H2 fun y H3 => ∃ a xs k b, v = .bl true ∧ x = .ref a ∧ y = .ref b ∧ H3 a = some (ND P w a xs) ∧ NKs H3 xs ∧ TK H3 k (.ref b) ∧ k.depth ≤ 8 ∧ xs.length < sizeLine ∧ D.nx σ (upd H3 a (ND P w a (putN xs k b)))
section
variable {X : Cx} {pos : Pos}
theorem pe_dnewN : PE X (.Dict [] [] pos) (tDNewN X.prog X.w) := ⟨fun pins s σ H Q I h =>
  wpAny_Dict_empty ⟨.ref s.heap.objs.size, _, I.laid (a := s.heap.objs.size) (o := ND X.prog X.w s.heap.objs.size []) (t' := s.toks) (fun _ _ q => Heap.get?_push_of_some _ q) (Nat.le_refl _)
    (nd_mk (beq_eq_false_iff_ne.mpr (Ne.symm (Nat.ne_of_lt I.big))) (Nat.zero_le _) (Heap.DictOfH.new _)), rfl, h _ (I.hok.fresh (Nat.le_refl _))⟩⟩
theorem ps_dputN {o i value : Expr} {pos pos' : Pos} {td ty tv : TE} (hu : X.A.units + 64 < cLine) (ho : PE X o td) (hi : PE X i ty) (hv : PE X value tv) (hs : swapsWith value (some (.Subscript o i pos')) pos.line X.env = pure false) :
    PS X (.Assign [.Subscript o i pos'] value pos) (sDPutN X.prog X.w td ty tv) := by
  refine ⟨fun pins s σ H D I h => ?_⟩
  refine wpAny_Assign_Subscript (thn (hv.run pins s σ H _ I h) fun r s1 ⟨v, H1, I1, rv, q1⟩ => thn (ho.run pins s1 σ H1 _ I1 q1) fun u s2 ⟨x, H2, I2, rx, q2⟩ => thn (hi.run pins s2 σ H2 _ I2 q2) fun iv s3 ⟨y, H3, I3, ry, a, xs, k, b, ev, ex, ey, e, hk, tk, dp, l, q3⟩ => ?_) hs
  subst ev ex ey
  obtain rfl : u = Value.ref a := rx
  obtain rfl : iv = Value.ref b := ry
  obtain rfl : r = Value.bool true := rv
  obtain ⟨hd, z, dd⟩ := nd_of I3.hok e hk
  have key : (nestedKind X.prog X.w).is s3.heap k b := ⟨TK.is I3.hok _ _ _ tk rfl, dp⟩
  refine wpAny_setItem_heap (knd := nestedKind X.prog X.w) (hsz := by rw [List.length_map]; exact z) (show X.A.units + 1 + 8 < cLine by omega) key dd fun h' dd' hs' => ⟨σ, _, ?_, q3⟩
  rw [stored_trp] at dd'
  have he : ∃ q, h'.get? a = some q := let ⟨q, _, _, hq, _⟩ := dd'; ⟨q, hq⟩
  exact d_write I3 (by rw [e]; exact True.intro) hs' he (nd_mk hd (by have := putN_len xs k b; omega) dd')
/-- list(d): its keys -/
theorem call_listN (hcalm : X.calm = true) : CallR X (.type "list") (fun vs H Q => ∃ (a : Addr) (xs : NEs), vs = [.ref a] ∧ H a = some (ND X.prog X.w a xs) ∧ NKs H xs ∧ ∀ p, H p = none → Q (.ref p) (upd H p (.lst (xs.map fun x => V.ref x.2)))) := by
  intro pins s σ H vs us Q I r q
  obtain ⟨a, xs, ex, e, hk, q⟩ := q
  subst ex
  obtain ⟨u, eu, rx⟩ := vals1 r
  subst eu
  cases rx
  obtain ⟨lo, z, dd⟩ := nd_of I.hok e hk
  obtain ⟨es, ep, raw, hsz, hent⟩ := dd.raw
  rw [List.length_map] at hsz
  refine PySem.W.kdl_call (KdlSrc.rawDict (es := es) (ep := ep) lo) (I.ok.hd hcalm) raw (by rw [hsz]; exact z) fun h' tk acc c' hkeep hD hacc => ?_
  refine ⟨.ref s.heap.objs.size, upd H s.heap.objs.size (.lst (xs.map fun x => V.ref x.2)), I.laid (t' := tk) hkeep (Nat.le_refl _)
    (show ObjOk X.prog X.w _ _ _ (.lst (xs.map fun x => V.ref x.2)) from ⟨by rw [List.length_map]; exact z, acc.toList, c', ?_, by rw [Array.toArray_toList]; exact hD⟩), rfl, q _ (I.hok.fresh (Nat.le_refl _))⟩
  have hl : acc.toList.length = xs.length := by rw [Array.length_toList, hacc.1, hsz]
  have hg : ∀ (j : Nat) (v : Value), acc.toList[j]? = some v → ∃ y, xs[j]? = some y ∧ v = .ref y.2 := fun j v hv => by
    obtain ⟨hj, rfl⟩ := hacc.2 j v (by rw [← Array.getElem?_toList]; exact hv)
    obtain ⟨y, hy, e1, _⟩ := hent j hj
    rw [List.getElem?_map] at hy
    cases hx : xs[j]? with
    | none => rw [hx] at hy; cases hy
    | some x =>
      rw [hx] at hy
      cases hy
      exact ⟨x, rfl, e1⟩
  have go : ∀ (ys : NEs) (l : List Value), l.length = ys.length → (∀ (j : Nat) (v : Value), l[j]? = some v → ∃ y, ys[j]? = some y ∧ v = .ref y.2) → Vals (ys.map fun x => V.ref x.2) l := by
    intro ys
    induction ys with
    | nil => intro l hl _; rw [List.eq_nil_of_length_eq_zero hl]; exact .nil
    | cons y ys ih =>
      intro l hl h
      cases l with
      | nil => simp at hl
      | cons v l =>
        obtain ⟨y', hy', rfl⟩ := h 0 v rfl
        cases hy'
        exact .cons rfl (ih l (by simpa using hl) fun j v hv => by simpa using h (j + 1) v (by simpa using hv))
  exact go xs _ hl hg
end
section
variable {X : Cx} {pins : List (Addr × Obj)} {σ : L2.St} {H : Hp} {s : Shared}
/-- sorted of what can be collected into alike data -/
theorem sorted_by {v : Value} {Q : VK} (hu : X.A.units + 64 < cLine) (I : L2.Inv X pins σ H s) {zs : List (PyData × V)}
    (col : ∀ (R : List Value → Shared → Prop), (∀ h' tk its, (∀ b o, s.heap.get? b = some o → h'.get? b = some o) → Vals (zs.map Prod.snd) its → its.length ≤ sizeLine → R its { s with heap := h', toks := tk }) → wpAny (model X.prog X.w) X.A.in1 (collect v) R X.xe s)
    (hd : DpAll X.K H (zs.map Prod.snd) (zs.map Prod.fst)) (hal : PySem.W.AllAlike (zs.map Prod.fst)) (hso : PySem.W.Sortable (zs.map Prod.fst)) (hdp : ∀ z ∈ zs, z.1.depth ≤ 60)
    (q : ∀ p, H p = none → Q (.ref p) (upd H p (.lst ((zs.mergeSort (PySem.W.dataLe false Prod.fst)).map Prod.snd)))) :
    wpAny (model X.prog X.w) X.A (call (.builtin "sorted") [v]) (fun u s' => ∃ x H', L2.Inv X pins σ H' s' ∧ L2.RelV x u ∧ Q x H') X.xe s := by
  refine Calls.call_function_entry PyProof.Rows.kind_sorted PyProof.Rows.plain_sorted PyProof.Rows.entry_sorted (PyProof.Rows.args_sorted1 _) ?_
  unfold Builtin.«sorted»
  refine wpAny_bind (m := checkCount "sorted" 1 1 _) (wpAny_pure ?_)
  refine wpAny_bind (col _ fun h' tk its hk rv hz => ?_)
  have I1 : L2.Inv X pins σ H { s with heap := h', toks := tk } := I.kept hk
  refine wpAny_bind (wpAny_newList ?_ hz)
  have hoL : (h'.push (seqObj "list" its.toArray 0)).get? h'.objs.size = some (seqObj "list" its.toArray 0) := Heap.get?_push_size _ rfl
  have I2 : L2.Inv X pins σ H { s with heap := PySem.W.sortingHeap (h'.push (seqObj "list" its.toArray 0)) h'.objs.size its, toks := tk } := I1.kept fun b o e => by
    have hb : b < h'.objs.size := Heap.lt_size e
    exact PySem.W.sortingHeap_old (Nat.ne_of_lt hb) (Heap.get?_push_of_some _ e)
  obtain ⟨as, hr⟩ := Dp.readsAll I2 (zs.map Prod.fst) _ its hd rv
  have er := PySem.W.readsAll_each (enc := Prod.fst) hr
  have ez := each_rel (f := Prod.snd) rv
  show wpAny _ _ _ _ _ { s with heap := h'.push (seqObj "list" its.toArray 0), toks := tk }
  refine wpAny_bind (wpAny_holding (wpAny_call_entry PyProof.Rows.slot_list_sort ⟨_, hoL, rfl⟩ PyProof.Rows.entry_list_sort
    (PySem.W.list_sort_vals (s := { s with heap := h'.push (seqObj "list" its.toArray 0), toks := tk }) hoL
      (PySem.W.SortsAt.data (s := { s with heap := PySem.W.sortingHeap (h'.push (seqObj "list" its.toArray 0)) h'.objs.size its, toks := tk }) (PySem.W.each_map (R := fun v d => ∃ as, Reads _ v d as) Prod.fst er) hal hso
        (PySem.W.bound_map fun b hb => ?_)) hz ⟨_, rfl, ?_⟩)
    (PyProof.Rows.args_list_sort _)))
  · have := hdp b hb
    show X.A.units + 2 + b.1.depth < cLine
    omega
  · have hlen := PySem.W.sortVals_length (κ := PySem.W.dataKind (PySem.W.sortingHeap (h'.push (seqObj "list" its.toArray 0)) h'.objs.size its) (zs.map Prod.fst)) false (ks := its) (vs := its) rfl
    have hv := each_vals (f := Prod.snd) (PySem.W.sortVals_data false ez er hal)
    generalize PySem.W.sortVals (PySem.W.dataKind (PySem.W.sortingHeap (h'.push (seqObj "list" its.toArray 0)) h'.objs.size its) (zs.map Prod.fst)) false its its = out at hlen hv ⊢
    obtain ⟨e', he'⟩ := PyProof.Rows.sortedHeap_at (vs := its) (out := out.toArray) hoL
    have hlz : ((zs.mergeSort (PySem.W.dataLe false Prod.fst)).map Prod.snd).length ≤ sizeLine := by
      rw [hv.length, hlen]
      exact hz
    refine wpAny_pure ⟨_, rfl, .ref h'.objs.size, upd H h'.objs.size (.lst ((zs.mergeSort (PySem.W.dataLe false Prod.fst)).map Prod.snd)), I1.laid (t' := tk) (fun b u e => ?_) (Nat.le_refl _)
      (show ObjOk X.prog X.w _ _ _ (.lst _) from ⟨hlz, out, e', hv, he'⟩), rfl, q _ (I1.hok.fresh (Nat.le_refl _))⟩
    have hb : b < h'.objs.size := Heap.lt_size e
    rw [PyProof.Rows.sortedHeap_old (Nat.ne_of_lt hb) (by rw [size_push']; exact Nat.lt_succ_of_lt hb)]
    exact Heap.get?_push_of_some _ e
/-- sorted of a list or a tuple of alike data -/
def rSortedB (K : PySem.W.Frag) : List V → Hp → VK → Prop := fun xs H Q => ∃ (a : Addr) (zs : List (PyData × V)), xs = [.ref a] ∧ SqA K H a (zs.map Prod.snd) ∧ DpAll K H (zs.map Prod.snd) (zs.map Prod.fst) ∧ PySem.W.AllAlike (zs.map Prod.fst) ∧ PySem.W.Sortable (zs.map Prod.fst) ∧ (∀ z ∈ zs, z.1.depth ≤ 60) ∧
  ∀ p, H p = none → Q (.ref p) (upd H p (.lst ((zs.mergeSort (PySem.W.dataLe false Prod.fst)).map Prod.snd)))
theorem cr_sortedB (hu : X.A.units + 64 < cLine) : CallR X (.builtin "sorted") (rSortedB X.K) := by
  intro pins s σ H xs us Q I r h
  obtain ⟨a, zs, rfl, hs, hd, hal, hso, hdp, q⟩ := h
  rcases hs with hs | hs
  · exact cr_sortedG hu pins s σ H _ us Q I r ⟨a, zs, rfl, sq_of hs, hd, hal, hso, hdp, q⟩
  · obtain ⟨u, rfl, ru⟩ := vals1 r
    obtain rfl : u = Value.ref a := ru
    refine sorted_by hu I (fun R k => ?_) hd hal hso hdp q
    obtain ⟨z, its, rv, ob, e1, e2, n, e3⟩ := (show ObjOk X.prog X.w H s.heap a (.tup (zs.map Prod.snd)) from I.hok _ _ hs)
    have hz : its.length ≤ sizeLine := by rw [← rv.length]; exact z
    exact wpAny_collect_seq a (.inr rfl) e1 e2 e3 (fun h' hk => by simpa using k h' s.toks its hk rv hz) (by simpa using hz)
end
/-- a tuple, new or not -/
def EvQ (te : TE) (σ : L2.St) (H : Hp) (xs : List V) : Prop := ∀ H1, Ex H H1 → ∀ Q : VK, (∀ p H2, Ex H1 H2 → H2 p = some (.tup xs) → Q (.ref p) H2) → te σ H1 Q
section
variable {K : PySem.W.Frag} {σ : L2.St} {H : Hp}
theorem eq_of {te : TE} {xs : List V} (h : EvU te σ H xs) : EvQ te σ H xs := fun H1 e Q q => h H1 e Q fun p H2 _ e2 h2 => q p H2 e2 h2
theorem eq_is {te : TE} {xs ys : List V} (h : EvQ te σ H xs) (e : xs = ys) : EvQ te σ H ys := e ▸ h
theorem eq_slT {te : TE} {tl th : TO} {a : Addr} {xs : List V} {lo hi : Option Int} (h : Ev te σ H (.ref a)) (h1 : EvO tl σ H lo) (h2 : EvO th σ H hi) (hs : H a = some (.tup xs)) : EvQ (tSl (rSlTW K) te tl th) σ H (cutV xs lo hi) :=
  fun H1 e Q q => h H1 e _ fun H2 e2 => h1 H2 (e.trans e2) _ fun H3 e3 => h2 H3 ((e.trans e2).trans e3) _ fun H4 e4 => by
    have e14 := (e2.trans e3).trans e4
    have ha := e14 _ _ (e _ _ hs)
    refine ⟨a, xs, rfl, st_of ha, fun w1 w2 => ?_, fun _ p np => q p _ (e14.trans (Ex.new np)) upd_same⟩
    refine q a H4 e14 ?_
    rw [ha]
    unfold cutV
    rw [w1, w2, List.drop_zero, Nat.sub_zero, List.take_length]
theorem eq_cat {ta tb : TE} {xs ys : List V} (ha : EvQ ta σ H xs) (hb : EvQ tb σ H ys) (hz : xs.length + ys.length ≤ sizeLine) : EvQ (tOp (rCatA K) ta tb) σ H (xs ++ ys) :=
  fun H1 e Q q => ha H1 e _ fun p H2 e2 hp => hb H2 (e.trans e2) _ fun r H3 e3 hr => by
    have e13 := e2.trans e3
    refine ⟨p, r, xs, ys, rfl, rfl, st_of (e3 _ _ hp), st_of hr, hz, fun he => ?_, fun _ he => ?_, fun _ _ u nu => q u _ (e13.trans (Ex.new nu)) upd_same⟩
    · subst he
      exact q r H3 e13 hr
    · subst he
      rw [List.append_nil] at q
      exact q p H3 e13 (e3 _ _ hp)
end
/-- a for over enumerate(t), t a tuple, while other things change; the last statement -/
theorem s_forET {K : PySem.W.Frag} {σ : L2.St} {H : Hp} {ta : TA} {tu : TS} {D : Ends} {a : Addr} {xs : List V} {j k : Nat} (h : EvA ta σ H [.ref a]) (hx : H a = some (.tup xs)) (Pv : Nat → L2.St → Hp → Prop) (h0 : ∀ H1, Ex H H1 → Pv 0 σ H1) (hl : ∀ i σ' H', i ≤ xs.length → Pv i σ' H' → H' a = some (.tup xs))
    (hs : ∀ i x σ' H' T, xs[i]? = some x → Pv i σ' H' → H' T = none → tu { D with nx := Pv (i + 1), ct := Pv (i + 1), bk := D.nx } ((σ'.set j (some (.int (i : Int)))).set k (some x)) (upd H' T (.tup [.int (i : Int), x]))) (hd : ∀ σ' H', Pv xs.length σ' H' → D.nx σ' H') :
    tFor (iEnumA K ta) (gTup K 2 (gCons (gName j) (gCons (gName k) gNil))) tu D σ H := h H (Ex.refl H) _ fun H1 e1 => by
  refine ⟨a, xs, rfl, .inr ⟨st_of (e1 _ _ hx), ?_⟩⟩
  refine for_it (walk_enumT (xs := xs)) Pv (h0 H1 e1) (fun i σ' H' hi p => st_of (hl i σ' H' hi p)) (fun i x σ' H2 H' hi p y => ?_) hd
  obtain ⟨T, nn, y, rfl, nT, rfl, hn, hy⟩ := y
  obtain rfl : V.int (i : Nat) = nn := Option.some.inj hn
  exact ⟨T, _, rfl, st_of upd_same, rfl, _, _, rfl, _, _, rfl, rfl, hs i y σ' H2 T hy p nT⟩
end Qt
/-! lists of lists of plain values and tuples: made, copied, compared; what is changed elsewhere. -/
namespace Qt
open PySem PySem.Spec PyProof.Rows L2 Evl
inductive IT where
  | flat (v : V)
  | tup (vs : List V)
def dI : IT → PyData
  | .flat v => datV v
  | .tup vs => .tuple (vs.map datV)
def okI : IT → Prop
  | .flat v => okV v
  | .tup vs => ∀ v ∈ vs, okV v
def IAt (H : Hp) (v : V) : IT → Prop
  | .flat x => v = x
  | .tup vs => ∃ t, v = .ref t ∧ H t = some (.tup vs)
def InAt (H : Hp) (p : Addr) (its : List IT) : Prop := ∃ xs, H p = some (.lst xs) ∧ Paired (IAt H) xs its
def TAt (H : Hp) (l : Addr) (ps : List Addr) (T : List (List IT)) : Prop := H l = some (.lst (ps.map V.ref)) ∧ Paired (InAt H) ps T
def okT (T : List (List IT)) : Prop := ∀ its ∈ T, ∀ it ∈ its, okI it
def dT (T : List (List IT)) : PyData := .list (T.map fun its => .list (its.map dI))
/-- all but some lists stays -/
def Off (ps : List Addr) (H H1 : Hp) : Prop := ∀ a o, a ∉ ps → H a = some o → H1 a = some o
def AllL (H : Hp) (ps : List Addr) : Prop := ∀ p ∈ ps, ∃ xs, H p = some (.lst xs)
/-- a new list of such items -/
def EvI (te : TE) (σ : L2.St) (H : Hp) (its : List IT) : Prop := ∀ H1, Ex H H1 → ∀ Q : VK, (∀ p H2, H1 p = none → Ex H1 H2 → InAt H2 p its → Q (.ref p) H2) → te σ H1 Q
/-- some such lists, one behind the other -/
def EvIs (ta : TA) (σ : L2.St) (H : Hp) (T : List (List IT)) : Prop := ∀ H1, Ex H H1 → ∀ Q : List V → Hp → Prop, (∀ ps H2, (∀ p ∈ ps, H1 p = none) → Ex H1 H2 → Paired (InAt H2) ps T → Q (ps.map V.ref) H2) → ta σ H1 Q
/-- a new list of new lists -/
def EvTT (te : TE) (σ : L2.St) (H : Hp) (T : List (List IT)) : Prop := ∀ H1, Ex H H1 → ∀ Q : VK, (∀ l ps H2, H1 l = none → (∀ p ∈ ps, H1 p = none) → l ∉ ps → Ex H1 H2 → TAt H2 l ps T → Q (.ref l) H2) → te σ H1 Q
section
variable {K : PySem.W.Frag} {σ : L2.St} {H : Hp} {te : TE} {ta : TA}
def EvTC (te : TE) (σ : L2.St) (H : Hp) (ps : List Addr) (T : List (List IT)) : Prop := ∀ H1, Ex H H1 → ∀ Q : VK, (∀ l qs H2, H1 l = none → (∀ p ∈ qs, H1 p = none) → l ∉ ps ++ qs → Ex H1 H2 → TAt H2 l (ps ++ qs) T → Q (.ref l) H2) → te σ H1 Q
end
end Qt
namespace Qt
open PySem PySem.Spec PyProof.Rows L2 Evl
section
variable {K : PySem.W.Frag} {σ : L2.St} {H : Hp}
theorem dp_strsL (l : List Str) : DpAll K H (l.map V.str) (l.map PyData.str) := by
  induction l with
  | nil => exact .nil
  | cons x r ih => exact .cons (.str x) ih
theorem rv_neStrs {a b : Addr} {zs : List Str} (ha : H a = some (.lst (zs.map V.str))) (hb : H b = some (.lst (zs.map V.str))) (k : ∀ z ∈ zs, lowS z) : RV (rNeD K) (.ref a) (.ref b) H (.bl false) :=
  rv_ne_same (d := .list (zs.map PyData.str)) (fun _ e => .lst (sq_of (e _ _ ha)) (dp_strsL zs)) (fun _ e => .lst (sq_of (e _ _ hb)) (dp_strsL zs)) (shaped_list fun d hd => by
    obtain ⟨z, hz, rfl⟩ := List.mem_map.mp hd
    exact ⟨strOk_low (k z hz), Nat.zero_le _⟩)
end
end Qt
namespace Qt
open PySem PySem.Spec PyProof.Rows L2 Evl
section
variable {K : PySem.W.Frag} {σ : L2.St} {H : Hp} {ta : TA} {t : TT} {te : TE}
end
end Qt
namespace Qt
open PySem PySem.Spec PyProof.Rows L2 Evl
end Qt
namespace Qt
open PySem PySem.Spec PyProof.Rows L2 Evl
end Qt
/-! a walk over a new list of tuples, a comprehension over a tuple, sorted of a dict of texts, x[::-1] of a list. -/
namespace Qt
open PySem PySem.Spec PyProof.Rows L2 Evl
section
variable {K : PySem.W.Frag} {σ : L2.St} {H : Hp} {tl te : TE}
end
section
variable {X : Cx}
/-- sorted(d), d a dict of texts -/
def rSortedDk : List V → Hp → VK → Prop := fun xs H Q => ∃ (a : Addr) (kvs : List (Key × V)) (ks : List Str), xs = [.ref a] ∧ H a = some (.dK kvs) ∧ kvs.map (·.1) = ks.map Sum.inr ∧
  ∀ p, H p = none → Q (.ref p) (upd H p (.lst ((ks.mergeSort fun x y => decide (x.cps.toList ≤ y.cps.toList)).map V.str)))
end
end Qt
namespace Qt
open PySem PySem.Spec PyProof.Rows L2 Evl
end Qt
/-! what stands for data of any shape: compared. -/
namespace Qt
open PySem PySem.Spec PyProof.Rows L2 Evl
mutual
theorem Dp.exS {K : PySem.W.Frag} {H H1 : Hp} (e : Ex H H1) : ∀ (d : PyData) (v : V), Dp K H v d → Dp K H1 v d
  | .list ds, _, h => by
    cases h with
    | lst h1 h2 => exact .lst (ex_l e h1) (DpAll.exS e ds _ h2)
  | .tuple ds, _, h => by
    cases h with
    | tup h1 h2 => exact .tup (ex_t e h1) (DpAll.exS e ds _ h2)
  | .none, _, h => by cases h; exact .non
  | .bool b, _, h => by cases h; exact .bl b
  | .int i, _, h => by cases h; exact .int i
  | .str x, _, h => by cases h; exact .str x
theorem DpAll.exS {K : PySem.W.Frag} {H H1 : Hp} (e : Ex H H1) : ∀ (ds : List PyData) (vs : List V), DpAll K H vs ds → DpAll K H1 vs ds
  | [], _, h => by cases h; exact .nil
  | d :: ds, _, h => by
    cases h with
    | cons h1 h2 => exact .cons (Dp.exS e d _ h1) (DpAll.exS e ds _ h2)
end
/-- what is made stands for the data d -/
def EvX (K : PySem.W.Frag) (te : TE) (σ : L2.St) (H : Hp) (d : PyData) : Prop := ∀ H1, Ex H H1 → ∀ Q : VK, (∀ v H2, Ex H1 H2 → Dp K H2 v d → Q v H2) → te σ H1 Q
def EvXs (K : PySem.W.Frag) (ta : TA) (σ : L2.St) (H : Hp) (ds : List PyData) : Prop := ∀ H1, Ex H H1 → ∀ Q : List V → Hp → Prop, (∀ vs H2, Ex H1 H2 → DpAll K H2 vs ds → Q vs H2) → ta σ H1 Q
section
variable {K : PySem.W.Frag} {σ : L2.St} {H : Hp} {te ta tb : TE} {d : PyData}
theorem dx_is {d' : PyData} (h : EvX K te σ H d) (e : d = d') : EvX K te σ H d' := e ▸ h
theorem dx_ev {v : V} (h : Ev te σ H v) (k : okV v) : EvX K te σ H (datV v) := fun H1 e Q q => h H1 e Q fun H2 e2 => q v H2 e2 (dp_flat k)
theorem dx_at {a : Addr} (h : Ev te σ H (.ref a)) (hd : Dp K H (.ref a) d) : EvX K te σ H d := fun H1 e Q q => h H1 e Q fun H2 e2 => q _ H2 e2 (Dp.exS (e.trans e2) d _ hd)
theorem dx_L {xs : List V} (h : EvL te σ H xs) (k : ∀ v ∈ xs, okV v) : EvX K te σ H (.list (xs.map datV)) := fun H1 e Q q => h H1 e Q fun p H2 _ e2 hp => q _ H2 e2 (.lst (sq_of hp) (dp_flats k))
theorem dx_G {xss : List (List V)} (h : EvG te σ H xss) (k : ∀ x ∈ xss, ∀ v ∈ x, okV v) : EvX K te σ H (dTups xss) := fun H1 e Q q => h H1 e Q fun p H2 _ e2 hp => q _ H2 e2 (dp_ltup hp k)
theorem dx_nil : EvXs K tNil σ H [] := fun H1 _ Q q => q [] H1 (Ex.refl H1) .nil
theorem dx_cons {tr : TA} {ds : List PyData} (h : EvX K te σ H d) (hr : EvXs K tr σ H ds) : EvXs K (tCons te tr) σ H (d :: ds) := fun H1 e Q q =>
  h H1 e _ fun v H2 e2 hv => hr H2 (e.trans e2) _ fun vs H3 e3 hvs => q _ H3 (e2.trans e3) (.cons (Dp.exS e3 d v hv) hvs)
theorem dpAll_len {H : Hp} : ∀ {vs : List V} {ds : List PyData}, DpAll K H vs ds → vs.length = ds.length
  | _, _, .nil => rfl
  | _, _, .cons _ h => by rw [List.length_cons, List.length_cons, dpAll_len h]
theorem dx_lst {tr : TA} {ds : List PyData} (h : EvXs K tr σ H ds) (hl : ds.length ≤ 1000) : EvX K (tLst tr) σ H (.list ds) := fun H1 e Q q =>
  h H1 e _ fun vs H2 e2 hv => ⟨sz_of (by rw [dpAll_len hv]; omega), fun p np => q _ _ (e2.trans (Ex.new np)) (.lst (sq_of upd_same) (DpAll.exS (Ex.new np) ds vs hv))⟩
theorem dx_tup {tr : TA} {ds : List PyData} (h : EvXs K tr σ H ds) (hl : ds.length ≤ 1000) : EvX K (tTup tr) σ H (.tuple ds) := fun H1 e Q q =>
  h H1 e _ fun vs H2 e2 hv => ⟨sz_of (by rw [dpAll_len hv]; omega), fun p np => q _ _ (e2.trans (Ex.new np)) (.tup (st_of upd_same) (DpAll.exS (Ex.new np) ds vs hv))⟩
theorem ev_neX (ha : EvX K ta σ H d) (hb : EvX K tb σ H d) (s : SeqAt.shaped d = true) : Ev (tOp (rNeD K) ta tb) σ H (.bl false) := fun H1 e Q q =>
  ha H1 e _ fun v H2 e2 hv => hb H2 (e.trans e2) _ fun u H3 e3 hu => ne_same (Dp.exS e3 d v hv) hu s (q H3 (e2.trans e3))
theorem ev_eqX (ha : EvX K ta σ H d) (hb : EvX K tb σ H d) (s : SeqAt.shaped d = true) : Ev (tOp (rEqD K) ta tb) σ H (.bl true) := fun H1 e Q q =>
  ha H1 e _ fun v H2 e2 hv => hb H2 (e.trans e2) _ fun u H3 e3 hu => eq_same (Dp.exS e3 d v hv) hu s (q H3 (e2.trans e3))
theorem dx_callL {sp : Sp} {dvs vs : List V} {E : XK} {tr : TA} {xs : List V} (h : EvA tr σ H vs) (k : ∀ v ∈ xs, okV v) (hs : ∀ G, Ex H G → ∀ Q, RetL xs G Q → ∀ E, sp (vs ++ dvs) G Q E) : EvX K (tCall sp dvs E tr) σ H (.list (xs.map datV)) :=
  dx_L (fun H1 e Q q => h H1 e _ fun H2 e2 => hs H2 (e.trans e2) Q (fun p H3 hp e3 h3 => q p H3 (fresh_back e2 hp) (e2.trans e3) h3) E) k
theorem dx_callT {sp : Sp} {dvs vs : List V} {E : XK} {tr : TA} {xss : List (List V)} (h : EvA tr σ H vs) (k : ∀ x ∈ xss, ∀ v ∈ x, okV v) (hs : ∀ G, Ex H G → ∀ Q, RetT xss G Q → ∀ E, sp (vs ++ dvs) G Q E) : EvX K (tCall sp dvs E tr) σ H (dTups xss) :=
  dx_G (fun H1 e Q q => h H1 e _ fun H2 e2 => hs H2 (e.trans e2) Q (fun p H3 hp e3 h3 => q p H3 (fresh_back e2 hp) (e2.trans e3) h3) E) k
theorem dx_callV {sp : Sp} {dvs vs : List V} {E : XK} {tr : TA} {v : V} (h : EvA tr σ H vs) (k : okV v) (hs : ∀ G, Ex H G → ∀ Q, RetV v G Q → ∀ E, sp (vs ++ dvs) G Q E) : EvX K (tCall sp dvs E tr) σ H (datV v) :=
  dx_ev (fun H1 e Q q => h H1 e _ fun H2 e2 => hs H2 (e.trans e2) Q (fun H3 e3 => q H3 (e2.trans e3)) E) k
theorem ev_callV {sp : Sp} {dvs vs : List V} {E : XK} {tr : TA} {v : V} (h : EvA tr σ H vs) (hs : ∀ G, Ex H G → ∀ Q, RetV v G Q → ∀ E, sp (vs ++ dvs) G Q E) : Ev (tCall sp dvs E tr) σ H v :=
  fun H1 e Q q => h H1 e _ fun H2 e2 => hs H2 (e.trans e2) Q (fun H3 e3 => q H3 (e2.trans e3)) E
end
end Qt
namespace K24
open PySem PySem.Spec PyProof.Rows L2 Evl Qt
def topS (i : Nat) : Stmt := PySem.Challenge.pw_holedwindows_k24_known_windows.main.body.getD i (.Pass ⟨0, 0, 0, 0⟩)
abbrev s__wall : Stmt := topS 0
abbrev n__wall : List Str := ["k"]
abbrev p__wall : List Str := ["k"]
abbrev s_parts_of : Stmt := topS 2
abbrev n_parts_of : List Str := ["thing"]
abbrev p_parts_of : List Str := ["thing"]
abbrev s_rebuilt : Stmt := topS 3
abbrev n_rebuilt : List Str := ["thing", "parts", "key", "part"]
abbrev p_rebuilt : List Str := ["thing", "parts"]
abbrev s_copied : Stmt := topS 4
abbrev n_copied : List Str := ["value", "waiting", "ready", "thing", "has_parts", "start", "parts", "part"]
abbrev p_copied : List Str := ["value"]
abbrev s_BadViews___init__ : Stmt := inClass (topS 9) 0
abbrev n_BadViews___init__ : List Str := ["self", "index"]
abbrev p_BadViews___init__ : List Str := ["self", "index"]
abbrev s_BadNumber___init__ : Stmt := inClass (topS 11) 0
abbrev n_BadNumber___init__ : List Str := ["self", "n"]
abbrev p_BadNumber___init__ : List Str := ["self", "n"]
abbrev s_TooLong___init__ : Stmt := inClass (topS 13) 0
abbrev n_TooLong___init__ : List Str := ["self", "most"]
abbrev p_TooLong___init__ : List Str := ["self", "most"]
abbrev s_TooMany___init__ : Stmt := inClass (topS 14) 0
abbrev n_TooMany___init__ : List Str := ["self", "most"]
abbrev p_TooMany___init__ : List Str := ["self", "most"]
abbrev s_made_of : Stmt := topS 23
abbrev n_made_of : List Str := ["value", "signs", "sign"]
abbrev p_made_of : List Str := ["value", "signs"]
theorem sc_made_of : FnScope n_made_of p_made_of (defScope s_made_of) := ⟨rfl, rfl, rfl, by decide +kernel, rfl, by decide +kernel, by decide +kernel⟩
abbrev s_is_mask : Stmt := topS 24
abbrev n_is_mask : List Str := ["value"]
abbrev p_is_mask : List Str := ["value"]
theorem sc_is_mask : FnScope n_is_mask p_is_mask (defScope s_is_mask) := ⟨rfl, rfl, rfl, by decide +kernel, rfl, by decide +kernel, by decide +kernel⟩
abbrev s_check_mask : Stmt := topS 25
abbrev n_check_mask : List Str := ["mask"]
abbrev p_check_mask : List Str := ["mask"]
theorem sc_check_mask : FnScope n_check_mask p_check_mask (defScope s_check_mask) := ⟨rfl, rfl, rfl, by decide +kernel, rfl, by decide +kernel, by decide +kernel⟩
abbrev s_is_row : Stmt := topS 26
abbrev n_is_row : List Str := ["value"]
abbrev p_is_row : List Str := ["value"]
theorem sc_is_row : FnScope n_is_row p_is_row (defScope s_is_row) := ⟨rfl, rfl, rfl, by decide +kernel, rfl, by decide +kernel, by decide +kernel⟩
abbrev s_check_row : Stmt := topS 27
abbrev n_check_row : List Str := ["row"]
abbrev p_check_row : List Str := ["row"]
theorem sc_check_row : FnScope n_check_row p_check_row (defScope s_check_row) := ⟨rfl, rfl, rfl, by decide +kernel, rfl, by decide +kernel, by decide +kernel⟩
abbrev s_check_ring : Stmt := topS 28
abbrev n_check_ring : List Str := ["row"]
abbrev p_check_ring : List Str := ["row"]
theorem sc_check_ring : FnScope n_check_ring p_check_ring (defScope s_check_ring) := ⟨rfl, rfl, rfl, by decide +kernel, rfl, by decide +kernel, by decide +kernel⟩
abbrev s_is_look : Stmt := topS 29
abbrev n_is_look : List Str := ["told", "mask"]
abbrev p_is_look : List Str := ["told", "mask"]
theorem sc_is_look : FnScope n_is_look p_is_look (defScope s_is_look) := ⟨rfl, rfl, rfl, by decide +kernel, rfl, by decide +kernel, by decide +kernel⟩
abbrev s_check_look : Stmt := topS 30
abbrev n_check_look : List Str := ["told", "mask"]
abbrev p_check_look : List Str := ["told", "mask"]
theorem sc_check_look : FnScope n_check_look p_check_look (defScope s_check_look) := ⟨rfl, rfl, rfl, by decide +kernel, rfl, by decide +kernel, by decide +kernel⟩
abbrev s_check_looks : Stmt := topS 31
abbrev n_check_looks : List Str := ["looks", "mask", "index", "told"]
abbrev p_check_looks : List Str := ["looks", "mask"]
theorem sc_check_looks : FnScope n_check_looks p_check_looks (defScope s_check_looks) := ⟨rfl, rfl, rfl, by decide +kernel, rfl, by decide +kernel, by decide +kernel⟩
abbrev s_is_number : Stmt := topS 32
abbrev n_is_number : List Str := ["n", "least", "most"]
abbrev p_is_number : List Str := ["n", "least", "most"]
theorem sc_is_number : FnScope n_is_number p_is_number (defScope s_is_number) := ⟨rfl, rfl, rfl, by decide +kernel, rfl, by decide +kernel, by decide +kernel⟩
abbrev s_check_number : Stmt := topS 33
abbrev n_check_number : List Str := ["n", "least", "most"]
abbrev p_check_number : List Str := ["n", "least", "most"]
theorem sc_check_number : FnScope n_check_number p_check_number (defScope s_check_number) := ⟨rfl, rfl, rfl, by decide +kernel, rfl, by decide +kernel, by decide +kernel⟩
abbrev s_check_letters : Stmt := topS 34
abbrev n_check_letters : List Str := ["letters"]
abbrev p_check_letters : List Str := ["letters"]
theorem sc_check_letters : FnScope n_check_letters p_check_letters (defScope s_check_letters) := ⟨rfl, rfl, rfl, by decide +kernel, rfl, by decide +kernel, by decide +kernel⟩
abbrev s_check_great : Stmt := topS 35
abbrev n_check_great : List Str := ["width", "many", "letters"]
abbrev p_check_great : List Str := ["width", "many", "letters"]
theorem sc_check_great : FnScope n_check_great p_check_great (defScope s_check_great) := ⟨rfl, rfl, rfl, by decide +kernel, rfl, by decide +kernel, by decide +kernel⟩
abbrev s_check_small : Stmt := topS 36
abbrev n_check_small : List Str := ["mask", "letters"]
abbrev p_check_small : List Str := ["mask", "letters"]
theorem sc_check_small : FnScope n_check_small p_check_small (defScope s_check_small) := ⟨rfl, rfl, rfl, by decide +kernel, rfl, by decide +kernel, by decide +kernel⟩
abbrev s_check_row_in : Stmt := topS 37
abbrev n_check_row_in : List Str := ["row", "letters"]
abbrev p_check_row_in : List Str := ["row", "letters"]
theorem sc_check_row_in : FnScope n_check_row_in p_check_row_in (defScope s_check_row_in) := ⟨rfl, rfl, rfl, by decide +kernel, rfl, by decide +kernel, by decide +kernel⟩
abbrev s_check_lettered : Stmt := topS 38
abbrev n_check_lettered : List Str := ["row", "mask", "letters"]
abbrev p_check_lettered : List Str := ["row", "mask", "letters"]
theorem sc_check_lettered : FnScope n_check_lettered p_check_lettered (defScope s_check_lettered) := ⟨rfl, rfl, rfl, by decide +kernel, rfl, by decide +kernel, by decide +kernel⟩
abbrev s_seen : Stmt := topS 40
abbrev n_seen : List Str := ["mask", "place", "sign"]
abbrev p_seen : List Str := ["mask"]
theorem sc_seen : FnScope n_seen p_seen (defScope s_seen) := ⟨rfl, rfl, rfl, by decide +kernel, rfl, by decide +kernel, by decide +kernel⟩
abbrev s_together : Stmt := topS 41
abbrev n_together : List Str := ["one", "other", "far", "places", "width", "place"]
abbrev p_together : List Str := ["one", "other", "far"]
theorem sc_together : FnScope n_together p_together (defScope s_together) := ⟨rfl, rfl, rfl, by decide +kernel, rfl, by decide +kernel, by decide +kernel⟩
abbrev s_view_at : Stmt := topS 43
abbrev n_view_at : List Str := ["row", "places", "start", "place"]
abbrev p_view_at : List Str := ["row", "places", "start"]
theorem sc_view_at : FnScope n_view_at p_view_at (defScope s_view_at) := ⟨rfl, rfl, rfl, by decide +kernel, rfl, by decide +kernel, by decide +kernel⟩
abbrev s_others : Stmt := topS 44
abbrev n_others : List Str := ["view", "look", "letter", "sign"]
abbrev p_others : List Str := ["view", "look"]
theorem sc_others : FnScope n_others p_others (defScope s_others) := ⟨rfl, rfl, rfl, by decide +kernel, rfl, by decide +kernel, by decide +kernel⟩
abbrev s_views : Stmt := topS 45
abbrev n_views : List Str := ["row", "mask", "places", "start"]
abbrev p_views : List Str := ["row", "mask"]
theorem sc_views : FnScope n_views p_views (defScope s_views) := ⟨rfl, rfl, rfl, by decide +kernel, rfl, by decide +kernel, by decide +kernel⟩
abbrev s_all_unlike : Stmt := topS 46
abbrev n_all_unlike : List Str := ["found"]
abbrev p_all_unlike : List Str := ["found"]
theorem sc_all_unlike : FnScope n_all_unlike p_all_unlike (defScope s_all_unlike) := ⟨rfl, rfl, rfl, by decide +kernel, rfl, by decide +kernel, by decide +kernel⟩
abbrev s_tells : Stmt := topS 47
abbrev n_tells : List Str := ["row", "mask"]
abbrev p_tells : List Str := ["row", "mask"]
theorem sc_tells : FnScope n_tells p_tells (defScope s_tells) := ⟨rfl, rfl, rfl, by decide +kernel, rfl, by decide +kernel, by decide +kernel⟩
abbrev s_grouped : Stmt := topS 48
abbrev n_grouped : List Str := ["pairs", "places", "place", "view", "same"]
abbrev p_grouped : List Str := ["pairs"]
theorem sc_grouped : FnScope n_grouped p_grouped (defScope s_grouped) := ⟨rfl, rfl, rfl, by decide +kernel, rfl, by decide +kernel, by decide +kernel⟩
abbrev s_least_pair : Stmt := topS 49
abbrev n_least_pair : List Str := ["pairs", "found"]
abbrev p_least_pair : List Str := ["pairs"]
theorem sc_least_pair : FnScope n_least_pair p_least_pair (defScope s_least_pair) := ⟨rfl, rfl, rfl, by decide +kernel, rfl, by decide +kernel, by decide +kernel⟩
abbrev s_groups : Stmt := topS 50
abbrev n_groups : List Str := ["row", "mask"]
abbrev p_groups : List Str := ["row", "mask"]
theorem sc_groups : FnScope n_groups p_groups (defScope s_groups) := ⟨rfl, rfl, rfl, by decide +kernel, rfl, by decide +kernel, by decide +kernel⟩
abbrev s_alike : Stmt := topS 51
abbrev n_alike : List Str := ["row", "mask"]
abbrev p_alike : List Str := ["row", "mask"]
theorem sc_alike : FnScope n_alike p_alike (defScope s_alike) := ⟨rfl, rfl, rfl, by decide +kernel, rfl, by decide +kernel, by decide +kernel⟩
abbrev s_distance : Stmt := topS 52
abbrev n_distance : List Str := ["row", "mask", "found", "numbers", "at", "one", "other"]
abbrev p_distance : List Str := ["row", "mask"]
theorem sc_distance : FnScope n_distance p_distance (defScope s_distance) := ⟨rfl, rfl, rfl, by decide +kernel, rfl, by decide +kernel, by decide +kernel⟩
abbrev s_stands : Stmt := topS 53
abbrev n_stands : List Str := ["row", "mask", "wrong", "covered", "least"]
abbrev p_stands : List Str := ["row", "mask", "wrong", "covered"]
theorem sc_stands : FnScope n_stands p_stands (defScope s_stands) := ⟨rfl, rfl, rfl, by decide +kernel, rfl, by decide +kernel, by decide +kernel⟩
abbrev s_words : Stmt := topS 55
abbrev n_words : List Str := ["signs", "many", "found", "_", "word", "sign"]
abbrev p_words : List Str := ["signs", "many"]
theorem sc_words : FnScope n_words p_words (defScope s_words) := ⟨rfl, rfl, rfl, by decide +kernel, rfl, by decide +kernel, by decide +kernel⟩
abbrev s_in_common : Stmt := topS 56
abbrev n_in_common : List Str := ["found", "unlike", "signs"]
abbrev p_in_common : List Str := ["found", "unlike"]
theorem sc_in_common : FnScope n_in_common p_in_common (defScope s_in_common) := ⟨rfl, rfl, rfl, by decide +kernel, rfl, by decide +kernel, by decide +kernel⟩
abbrev s_near_bits : Stmt := topS 58
abbrev n_near_bits : List Str := ["bits", "view", "far", "other"]
abbrev p_near_bits : List Str := ["bits", "view", "far"]
theorem sc_near_bits : FnScope n_near_bits p_near_bits (defScope s_near_bits) := ⟨rfl, rfl, rfl, by decide +kernel, rfl, by decide +kernel, by decide +kernel⟩
abbrev s_window_bits : Stmt := topS 59
abbrev n_window_bits : List Str := ["mask", "signs", "far", "places", "bits", "barred", "shown", "at", "view", "window"]
abbrev p_window_bits : List Str := ["mask", "signs", "far"]
theorem sc_window_bits : FnScope n_window_bits p_window_bits (defScope s_window_bits) := ⟨rfl, rfl, rfl, by decide +kernel, rfl, by decide +kernel, by decide +kernel⟩
abbrev s_Growth___init__ : Stmt := inClass (topS 60) 0
abbrev n_Growth___init__ : List Str := ["self", "mask", "letters", "far"]
abbrev p_Growth___init__ : List Str := ["self", "mask", "letters", "far"]
theorem sc_Growth___init__ : FnScope n_Growth___init__ p_Growth___init__ (defScope s_Growth___init__) := ⟨rfl, rfl, rfl, by decide +kernel, rfl, by decide +kernel, by decide +kernel⟩
abbrev s_Growth_begun : Stmt := inClass (topS 60) 1
abbrev n_Growth_begun : List Str := ["self", "row", "barred", "start", "_", "near"]
abbrev p_Growth_begun : List Str := ["self", "row"]
theorem sc_Growth_begun : FnScope n_Growth_begun p_Growth_begun (defScope s_Growth_begun) := ⟨rfl, rfl, rfl, by decide +kernel, rfl, by decide +kernel, by decide +kernel⟩
abbrev s_Growth_longer : Stmt := inClass (topS 60) 2
abbrev n_Growth_longer : List Str := ["self", "told", "found", "row", "barred", "sign", "more", "bit", "near"]
abbrev p_Growth_longer : List Str := ["self", "told"]
theorem sc_Growth_longer : FnScope n_Growth_longer p_Growth_longer (defScope s_Growth_longer) := ⟨rfl, rfl, rfl, by decide +kernel, rfl, by decide +kernel, by decide +kernel⟩
abbrev s_told_rows : Stmt := topS 61
abbrev n_told_rows : List Str := ["mask", "letters", "length", "growth", "told", "_", "row"]
abbrev p_told_rows : List Str := ["mask", "letters", "length"]
theorem sc_told_rows : FnScope n_told_rows p_told_rows (defScope s_told_rows) := ⟨rfl, rfl, rfl, by decide +kernel, rfl, by decide +kernel, by decide +kernel⟩
abbrev s_farthest_rows : Stmt := topS 62
abbrev n_farthest_rows : List Str := ["row", "mask", "letters", "far", "growth", "told", "more", "made", "_"]
abbrev p_farthest_rows : List Str := ["row", "mask", "letters", "far"]
theorem sc_farthest_rows : FnScope n_farthest_rows p_farthest_rows (defScope s_farthest_rows) := ⟨rfl, rfl, rfl, by decide +kernel, rfl, by decide +kernel, by decide +kernel⟩
abbrev s_longest_rows : Stmt := topS 64
abbrev n_longest_rows : List Str := ["mask", "letters"]
abbrev p_longest_rows : List Str := ["mask", "letters"]
theorem sc_longest_rows : FnScope n_longest_rows p_longest_rows (defScope s_longest_rows) := ⟨rfl, rfl, rfl, by decide +kernel, rfl, by decide +kernel, by decide +kernel⟩
abbrev s_longest : Stmt := topS 65
abbrev n_longest : List Str := ["mask", "letters"]
abbrev p_longest : List Str := ["mask", "letters"]
theorem sc_longest : FnScope n_longest p_longest (defScope s_longest) := ⟨rfl, rfl, rfl, by decide +kernel, rfl, by decide +kernel, by decide +kernel⟩
abbrev s_count_rows : Stmt := topS 66
abbrev n_count_rows : List Str := ["mask", "letters", "length"]
abbrev p_count_rows : List Str := ["mask", "letters", "length"]
theorem sc_count_rows : FnScope n_count_rows p_count_rows (defScope s_count_rows) := ⟨rfl, rfl, rfl, by decide +kernel, rfl, by decide +kernel, by decide +kernel⟩
abbrev s_next_letters : Stmt := topS 67
abbrev n_next_letters : List Str := ["row", "mask", "letters", "signs", "found", "places", "start", "sign"]
abbrev p_next_letters : List Str := ["row", "mask", "letters"]
theorem sc_next_letters : FnScope n_next_letters p_next_letters (defScope s_next_letters) := ⟨rfl, rfl, rfl, by decide +kernel, rfl, by decide +kernel, by decide +kernel⟩
abbrev s_farthest : Stmt := topS 68
abbrev n_farthest : List Str := ["row", "mask", "letters"]
abbrev p_farthest : List Str := ["row", "mask", "letters"]
theorem sc_farthest : FnScope n_farthest p_farthest (defScope s_farthest) := ⟨rfl, rfl, rfl, by decide +kernel, rfl, by decide +kernel, by decide +kernel⟩
abbrev s_masks_of : Stmt := topS 71
abbrev n_masks_of : List Str := ["width", "inner"]
abbrev p_masks_of : List Str := ["width"]
theorem sc_masks_of : FnScope n_masks_of p_masks_of (defScope s_masks_of) := ⟨rfl, rfl, rfl, by decide +kernel, rfl, by decide +kernel, by decide +kernel⟩
abbrev s_masks_to : Stmt := topS 72
abbrev n_masks_to : List Str := ["width", "narrow", "mask"]
abbrev p_masks_to : List Str := ["width"]
theorem sc_masks_to : FnScope n_masks_to p_masks_to (defScope s_masks_to) := ⟨rfl, rfl, rfl, by decide +kernel, rfl, by decide +kernel, by decide +kernel⟩
abbrev s_best_masks : Stmt := topS 73
abbrev n_best_masks : List Str := ["many", "width", "letters", "lengths", "best", "mask"]
abbrev p_best_masks : List Str := ["many", "width", "letters"]
theorem sc_best_masks : FnScope n_best_masks p_best_masks (defScope s_best_masks) := ⟨rfl, rfl, rfl, by decide +kernel, rfl, by decide +kernel, by decide +kernel⟩
abbrev s_least_masks : Stmt := topS 74
abbrev n_least_masks : List Str := ["row", "width", "told", "fewest", "mask"]
abbrev p_least_masks : List Str := ["row", "width"]
theorem sc_least_masks : FnScope n_least_masks p_least_masks (defScope s_least_masks) := ⟨rfl, rfl, rfl, by decide +kernel, rfl, by decide +kernel, by decide +kernel⟩
abbrev s_fits : Stmt := topS 76
abbrev n_fits : List Str := ["view", "told"]
abbrev p_fits : List Str := ["view", "told"]
theorem sc_fits : FnScope n_fits p_fits (defScope s_fits) := ⟨rfl, rfl, rfl, by decide +kernel, rfl, by decide +kernel, by decide +kernel⟩
abbrev s_near : Stmt := topS 77
abbrev n_near : List Str := ["row", "mask", "told", "wrong", "found", "place", "view"]
abbrev p_near : List Str := ["row", "mask", "told", "wrong"]
theorem sc_near : FnScope n_near p_near (defScope s_near) := ⟨rfl, rfl, rfl, by decide +kernel, rfl, by decide +kernel, by decide +kernel⟩
abbrev s_find : Stmt := topS 78
abbrev n_find : List Str := ["row", "mask", "told"]
abbrev p_find : List Str := ["row", "mask", "told"]
theorem sc_find : FnScope n_find p_find (defScope s_find) := ⟨rfl, rfl, rfl, by decide +kernel, rfl, by decide +kernel, by decide +kernel⟩
abbrev s_first_places : Stmt := topS 79
abbrev n_first_places : List Str := ["many", "offsets", "first", "offset"]
abbrev p_first_places : List Str := ["many", "offsets"]
theorem sc_first_places : FnScope n_first_places p_first_places (defScope s_first_places) := ⟨rfl, rfl, rfl, by decide +kernel, rfl, by decide +kernel, by decide +kernel⟩
abbrev s_starts_of : Stmt := topS 80
abbrev n_starts_of : List Str := ["found", "looks", "offsets", "first", "offset", "told"]
abbrev p_starts_of : List Str := ["found", "looks", "offsets"]
theorem sc_starts_of : FnScope n_starts_of p_starts_of (defScope s_starts_of) := ⟨rfl, rfl, rfl, by decide +kernel, rfl, by decide +kernel, by decide +kernel⟩
abbrev s_runs_at : Stmt := topS 81
abbrev n_runs_at : List Str := ["found", "offsets", "first", "offset"]
abbrev p_runs_at : List Str := ["found", "offsets"]
theorem sc_runs_at : FnScope n_runs_at p_runs_at (defScope s_runs_at) := ⟨rfl, rfl, rfl, by decide +kernel, rfl, by decide +kernel, by decide +kernel⟩
abbrev s_looks_needed : Stmt := topS 82
abbrev n_looks_needed : List Str := ["found", "step", "many", "runs", "at"]
abbrev p_looks_needed : List Str := ["found", "step"]
theorem sc_looks_needed : FnScope n_looks_needed p_looks_needed (defScope s_looks_needed) := ⟨rfl, rfl, rfl, by decide +kernel, rfl, by decide +kernel, by decide +kernel⟩
abbrev s_steps_needed : Stmt := topS 83
abbrev n_steps_needed : List Str := ["row", "mask"]
abbrev p_steps_needed : List Str := ["row", "mask"]
theorem sc_steps_needed : FnScope n_steps_needed p_steps_needed (defScope s_steps_needed) := ⟨rfl, rfl, rfl, by decide +kernel, rfl, by decide +kernel, by decide +kernel⟩
abbrev s_laid_on : Stmt := topS 86
abbrev n_laid_on : List Str := ["signs", "look", "places", "start", "known", "sign", "place", "at"]
abbrev p_laid_on : List Str := ["signs", "look", "places", "start"]
theorem sc_laid_on : FnScope n_laid_on p_laid_on (defScope s_laid_on) := ⟨rfl, rfl, rfl, by decide +kernel, rfl, by decide +kernel, by decide +kernel⟩
abbrev s_unknown_row : Stmt := topS 87
abbrev n_unknown_row : List Str := ["mask", "views"]
abbrev p_unknown_row : List Str := ["mask", "views"]
theorem sc_unknown_row : FnScope n_unknown_row p_unknown_row (defScope s_unknown_row) := ⟨rfl, rfl, rfl, by decide +kernel, rfl, by decide +kernel, by decide +kernel⟩
abbrev s_put_in_order : Stmt := topS 88
abbrev n_put_in_order : List Str := ["mask", "views", "places", "row", "start", "look"]
abbrev p_put_in_order : List Str := ["mask", "views"]
theorem sc_put_in_order : FnScope n_put_in_order p_put_in_order (defScope s_put_in_order) := ⟨rfl, rfl, rfl, by decide +kernel, rfl, by decide +kernel, by decide +kernel⟩
abbrev s_joined : Stmt := topS 89
abbrev n_joined : List Str := ["mask", "views", "row", "_"]
abbrev p_joined : List Str := ["mask", "views"]
theorem sc_joined : FnScope n_joined p_joined (defScope s_joined) := ⟨rfl, rfl, rfl, by decide +kernel, rfl, by decide +kernel, by decide +kernel⟩
abbrev s_first_clash : Stmt := topS 90
abbrev n_first_clash : List Str := ["mask", "views", "_", "clash"]
abbrev p_first_clash : List Str := ["mask", "views"]
theorem sc_first_clash : FnScope n_first_clash p_first_clash (defScope s_first_clash) := ⟨rfl, rfl, rfl, by decide +kernel, rfl, by decide +kernel, by decide +kernel⟩
abbrev s_with_each_look : Stmt := topS 91
abbrev n_with_each_look : List Str := ["partial", "places", "start", "found", "row", "left", "at", "look", "more"]
abbrev p_with_each_look : List Str := ["partial", "places", "start"]
theorem sc_with_each_look : FnScope n_with_each_look p_with_each_look (defScope s_with_each_look) := ⟨rfl, rfl, rfl, by decide +kernel, rfl, by decide +kernel, by decide +kernel⟩
abbrev s_rows_from : Stmt := topS 92
abbrev n_rows_from : List Str := ["mask", "views", "places", "partial", "start", "row", "_"]
abbrev p_rows_from : List Str := ["mask", "views"]
theorem sc_rows_from : FnScope n_rows_from p_rows_from (defScope s_rows_from) := ⟨rfl, rfl, rfl, by decide +kernel, rfl, by decide +kernel, by decide +kernel⟩
abbrev s_sure_from : Stmt := topS 93
abbrev n_sure_from : List Str := ["mask", "views", "rows"]
abbrev p_sure_from : List Str := ["mask", "views"]
theorem sc_sure_from : FnScope n_sure_from p_sure_from (defScope s_sure_from) := ⟨rfl, rfl, rfl, by decide +kernel, rfl, by decide +kernel, by decide +kernel⟩
abbrev s_told_near : Stmt := topS 96
abbrev n_told_near : List Str := ["row", "mask", "signs", "changes", "made", "_", "longer", "begun", "sign"]
abbrev p_told_near : List Str := ["row", "mask", "signs", "changes"]
theorem sc_told_near : FnScope n_told_near p_told_near (defScope s_told_near) := ⟨rfl, rfl, rfl, by decide +kernel, rfl, by decide +kernel, by decide +kernel⟩
abbrev s_mend : Stmt := topS 97
abbrev n_mend : List Str := ["row", "mask", "letters", "changes", "made"]
abbrev p_mend : List Str := ["row", "mask", "letters"]
theorem sc_mend : FnScope n_mend p_mend (defScope s_mend) := ⟨rfl, rfl, rfl, by decide +kernel, rfl, by decide +kernel, by decide +kernel⟩
abbrev s_weak_letters : Stmt := topS 98
abbrev n_weak_letters : List Str := ["row", "mask", "letters", "place", "sign"]
abbrev p_weak_letters : List Str := ["row", "mask", "letters"]
theorem sc_weak_letters : FnScope n_weak_letters p_weak_letters (defScope s_weak_letters) := ⟨rfl, rfl, rfl, by decide +kernel, rfl, by decide +kernel, by decide +kernel⟩
abbrev s_ring_view : Stmt := topS 100
abbrev n_ring_view : List Str := ["row", "places", "start", "place"]
abbrev p_ring_view : List Str := ["row", "places", "start"]
theorem sc_ring_view : FnScope n_ring_view p_ring_view (defScope s_ring_view) := ⟨rfl, rfl, rfl, by decide +kernel, rfl, by decide +kernel, by decide +kernel⟩
abbrev s_ring_views : Stmt := topS 101
abbrev n_ring_views : List Str := ["row", "mask", "places", "start"]
abbrev p_ring_views : List Str := ["row", "mask"]
theorem sc_ring_views : FnScope n_ring_views p_ring_views (defScope s_ring_views) := ⟨rfl, rfl, rfl, by decide +kernel, rfl, by decide +kernel, by decide +kernel⟩
abbrev s_ring_tells : Stmt := topS 102
abbrev n_ring_tells : List Str := ["row", "mask"]
abbrev p_ring_tells : List Str := ["row", "mask"]
theorem sc_ring_tells : FnScope n_ring_tells p_ring_tells (defScope s_ring_tells) := ⟨rfl, rfl, rfl, by decide +kernel, rfl, by decide +kernel, by decide +kernel⟩
abbrev s_count_views : Stmt := topS 103
abbrev n_count_views : List Str := ["mask", "letters"]
abbrev p_count_views : List Str := ["mask", "letters"]
theorem sc_count_views : FnScope n_count_views p_count_views (defScope s_count_views) := ⟨rfl, rfl, rfl, by decide +kernel, rfl, by decide +kernel, by decide +kernel⟩
abbrev s_is_least : Stmt := topS 104
abbrev n_is_least : List Str := ["row", "start"]
abbrev p_is_least : List Str := ["row"]
theorem sc_is_least : FnScope n_is_least p_is_least (defScope s_is_least) := ⟨rfl, rfl, rfl, by decide +kernel, rfl, by decide +kernel, by decide +kernel⟩
abbrev s_longest_ring : Stmt := topS 105
abbrev n_longest_ring : List Str := ["mask", "letters", "length", "row"]
abbrev p_longest_ring : List Str := ["mask", "letters"]
theorem sc_longest_ring : FnScope n_longest_ring p_longest_ring (defScope s_longest_ring) := ⟨rfl, rfl, rfl, by decide +kernel, rfl, by decide +kernel, by decide +kernel⟩
abbrev s_full_rings : Stmt := topS 106
abbrev n_full_rings : List Str := ["mask", "letters", "rows", "row"]
abbrev p_full_rings : List Str := ["mask", "letters"]
theorem sc_full_rings : FnScope n_full_rings p_full_rings (defScope s_full_rings) := ⟨rfl, rfl, rfl, by decide +kernel, rfl, by decide +kernel, by decide +kernel⟩
abbrev s_Tracker___init__ : Stmt := inClass (topS 108) 0
abbrev n_Tracker___init__ : List Str := ["self", "row", "mask"]
abbrev p_Tracker___init__ : List Str := ["self", "row", "mask"]
theorem sc_Tracker___init__ : FnScope n_Tracker___init__ p_Tracker___init__ (defScope s_Tracker___init__) := ⟨rfl, rfl, rfl, by decide +kernel, rfl, by decide +kernel, by decide +kernel⟩
abbrev s_Tracker_row : Stmt := inClass (topS 108) 1
abbrev n_Tracker_row : List Str := ["self"]
abbrev p_Tracker_row : List Str := ["self"]
abbrev s_Tracker_mask : Stmt := inClass (topS 108) 2
abbrev n_Tracker_mask : List Str := ["self"]
abbrev p_Tracker_mask : List Str := ["self"]
abbrev s_Tracker_seen : Stmt := inClass (topS 108) 3
abbrev n_Tracker_seen : List Str := ["self"]
abbrev p_Tracker_seen : List Str := ["self"]
abbrev s_Tracker_see : Stmt := inClass (topS 108) 4
abbrev n_Tracker_see : List Str := ["self", "view"]
abbrev p_Tracker_see : List Str := ["self", "view"]
theorem sc_Tracker_see : FnScope n_Tracker_see p_Tracker_see (defScope s_Tracker_see) := ⟨rfl, rfl, rfl, by decide +kernel, rfl, by decide +kernel, by decide +kernel⟩
abbrev s_Tracker_starts : Stmt := inClass (topS 108) 5
abbrev n_Tracker_starts : List Str := ["self"]
abbrev p_Tracker_starts : List Str := ["self"]
theorem sc_Tracker_starts : FnScope n_Tracker_starts p_Tracker_starts (defScope s_Tracker_starts) := ⟨rfl, rfl, rfl, by decide +kernel, rfl, by decide +kernel, by decide +kernel⟩
abbrev s_Tracker_places : Stmt := inClass (topS 108) 6
abbrev n_Tracker_places : List Str := ["self", "gone", "start"]
abbrev p_Tracker_places : List Str := ["self"]
theorem sc_Tracker_places : FnScope n_Tracker_places p_Tracker_places (defScope s_Tracker_places) := ⟨rfl, rfl, rfl, by decide +kernel, rfl, by decide +kernel, by decide +kernel⟩
abbrev s_Tracker_undo : Stmt := inClass (topS 108) 7
abbrev n_Tracker_undo : List Str := ["self", "many"]
abbrev p_Tracker_undo : List Str := ["self"]
theorem sc_Tracker_undo : FnScope n_Tracker_undo p_Tracker_undo (defScope s_Tracker_undo) := ⟨rfl, rfl, rfl, by decide +kernel, rfl, by decide +kernel, by decide +kernel⟩
abbrev s_Tracker_copy : Stmt := inClass (topS 108) 8
abbrev n_Tracker_copy : List Str := ["self"]
abbrev p_Tracker_copy : List Str := ["self"]
abbrev s_Tracker___len__ : Stmt := inClass (topS 108) 9
abbrev n_Tracker___len__ : List Str := ["self"]
abbrev p_Tracker___len__ : List Str := ["self"]
theorem sc_Tracker___len__ : FnScope n_Tracker___len__ p_Tracker___len__ (defScope s_Tracker___len__) := ⟨rfl, rfl, rfl, by decide +kernel, rfl, by decide +kernel, by decide +kernel⟩
abbrev s__law_taken : Stmt := topS 110
abbrev n__law_taken : List Str := ["_law_row", "_law_many", "_law_found", "_law_cell"]
abbrev p__law_taken : List Str := ["_law_row", "_law_many"]
theorem sc__law_taken : FnScope n__law_taken p__law_taken (defScope s__law_taken) := ⟨rfl, rfl, rfl, by decide +kernel, rfl, by decide +kernel, by decide +kernel⟩
abbrev s__law_turned : Stmt := topS 111
abbrev n__law_turned : List Str := ["_law_line", "_law_by", "_law_sign"]
abbrev p__law_turned : List Str := ["_law_line", "_law_by"]
theorem sc__law_turned : FnScope n__law_turned p__law_turned (defScope s__law_turned) := ⟨rfl, rfl, rfl, by decide +kernel, rfl, by decide +kernel, by decide +kernel⟩
abbrev s__law_viewed : Stmt := topS 112
abbrev n__law_viewed : List Str := ["_law_by", "_law_good", "_law_bad", "_law_view"]
abbrev p__law_viewed : List Str := ["_law_by"]
theorem sc__law_viewed : FnScope n__law_viewed p__law_viewed (defScope s__law_viewed) := ⟨rfl, rfl, rfl, by decide +kernel, rfl, by decide +kernel, by decide +kernel⟩
abbrev s__law_long : Stmt := topS 113
abbrev n__law_long : List Str := []
abbrev p__law_long : List Str := []
theorem sc__law_long : FnScope n__law_long p__law_long (defScope s__law_long) := ⟨rfl, rfl, rfl, by decide +kernel, rfl, by decide +kernel, by decide +kernel⟩
abbrev s__law_joined : Stmt := topS 114
abbrev n__law_joined : List Str := ["_law_by", "_law_some", "_law_due", "_law_tracker", "_law_view", "_law_line"]
abbrev p__law_joined : List Str := ["_law_by"]
theorem sc__law_joined : FnScope n__law_joined p__law_joined (defScope s__law_joined) := ⟨rfl, rfl, rfl, by decide +kernel, rfl, by decide +kernel, by decide +kernel⟩
abbrev s_law : Stmt := topS 115
abbrev n_law : List Str := ["_law_script", "_law_row", "_law_by"]
abbrev p_law : List Str := ["_law_script"]
theorem sc_law : FnScope n_law p_law (defScope s_law) := ⟨rfl, rfl, rfl, by decide +kernel, rfl, by decide +kernel, by decide +kernel⟩
structure Top (K : PySem.W.Frag) (mg : Str → Option Value) (CM CV CG fG CK fK a_SMALL_WIDTH a_SMALL_SEEN : Addr) : Prop where
  m_isinstance : mg "isinstance" = none
  m_str : mg "str" = none
  m_int : mg "int" = none
  m_bool : mg "bool" = none
  m_list : mg "list" = none
  m_tuple : mg "tuple" = none
  m_dict : mg "dict" = none
  m_all : mg "all" = none
  m_len : mg "len" = none
  m_enumerate : mg "enumerate" = none
  m_range : mg "range" = none
  m_reversed : mg "reversed" = none
  m_zip : mg "zip" = none
  m_set : mg "set" = none
  m_min : mg "min" = none
  m_max : mg "max" = none
  m_sorted : mg "sorted" = none
  m_sum : mg "sum" = none
  g_LETTERS : ∃ t, mg "LETTERS" = some (.str (PySem.Str.ofString "abcd") t)
  g_UNREAD : ∃ t, mg "UNREAD" = some (.str (PySem.Str.ofString "?") t)
  g_WIDEST : ∃ t, mg "WIDEST" = some (.int 12 t)
  g_LONGEST : ∃ t, mg "LONGEST" = some (.int 60 t)
  g_MOST_LOOKS : ∃ t, mg "MOST_LOOKS" = some (.int 60 t)
  g_WIDEST_FOR_A_ROW : ∃ t, mg "WIDEST_FOR_A_ROW" = some (.int 9 t)
  g_MOST_IN_ANY_ORDER : ∃ t, mg "MOST_IN_ANY_ORDER" = some (.int 7 t)
  g_LONGEST_TO_MEND : ∃ t, mg "LONGEST_TO_MEND" = some (.int 8 t)
  g_SMALL_WIDTH : mg "SMALL_WIDTH" = some (.ref a_SMALL_WIDTH) ∧ TabI K a_SMALL_WIDTH [(1, 12), (2, 8), (3, 5), (4, 4)]
  g_SMALL_SEEN : mg "SMALL_SEEN" = some (.ref a_SMALL_SEEN) ∧ TabI K a_SMALL_SEEN [(1, 12), (2, 4), (3, 2), (4, 1)]
  c_Growth : OwnC K mg "Growth" CG fG ["signs", "width", "bits"]
  t_Growth_init : ∃ fd, Fun K "__init__" "Growth.__init__" s_Growth___init__ fG fd ∧ Binds K fd p_Growth___init__ []
  t_Growth_begun : MethC K CG "begun" "Growth.begun" s_Growth_begun p_Growth_begun
  t_Growth_longer : MethC K CG "longer" "Growth.longer" s_Growth_longer p_Growth_longer
  c_Tracker : OwnC K mg "Tracker" CK fK ["_found", "_row", "_mask", "_looks"]
  t_Tracker_init : ∃ fd, Fun K "__init__" "Tracker.__init__" s_Tracker___init__ fK fd ∧ Binds K fd p_Tracker___init__ []
  t_Tracker_see : MethC K CK "see" "Tracker.see" s_Tracker_see p_Tracker_see
  t_Tracker_starts : MethC K CK "starts" "Tracker.starts" s_Tracker_starts p_Tracker_starts
  t_Tracker_places : MethC K CK "places" "Tracker.places" s_Tracker_places p_Tracker_places
  t_Tracker_undo : MethC K CK "undo" "Tracker.undo" s_Tracker_undo p_Tracker_undo
  t_Tracker___len__ : MethC K CK "__len__" "Tracker.__len__" s_Tracker___len__ p_Tracker___len__
  e_BadMask : ExcC K mg "BadMask" CM
  e_BadView : ExcC K mg "BadView" CV
end K24
namespace K24
open PySem PySem.Spec PyProof.Rows L2 Evl Qt
def isStr : V → Bool
  | .str _ => true
  | _ => false
def madeOf (v : V) (z : Str) : Bool := match v with
  | .str m => m.cps.toList.all fun c => decide (c ∈ z.cps.toList)
  | _ => false
def spMade (K : PySem.W.Frag) : Sp := fun vs H Q _ => ∃ (v : V) (z : Str) (t : String), vs = [v, .str z] ∧ Kind K H v t ∧ kitB t "str" = some (isStr v) ∧ (∀ m, v = .str m → m.length ≤ 1000) ∧ RetV (.bl (madeOf v z)) H Q
section
variable {P : Program} {w : World} {K : PySem.W.Frag} {mg : Str → Option Value} {base : Heap} {CM CV CG fG CK fK a_SMALL_WIDTH a_SMALL_SEEN : Addr}
theorem ok_made_of (e : Ent K mg "made_of" s_made_of p_made_of) (T : Top K mg CM CV CG fG CK fK a_SMALL_WIDTH a_SMALL_SEEN) : Cal P w K mg base CX0 1 "made_of" p_made_of (spMade K) := by
  obtain ⟨f, fd, F, m_, b_⟩ := e
  refine ⟨f, fd, F.ok sc_made_of (fun vs H Q E h => ?_) (fun cdv A outer s H vs Q E hr h => ?_), m_, F.kp, b_⟩
  · obtain ⟨v, z, t, rfl, _⟩ := h
    rfl
  · obtain ⟨v, z, t, rfl, hk, hb, hl, q⟩ := h
    refine ⟨_, (pss_one (ps_ret (pe_and (pe_callB call_isi (by rfl) T.m_isinstance (by decide +kernel) (pa_cons (pv 0) (pa_cons (pe_bltn (v := .ty "str") (by rfl) T.m_str (by decide +kernel) rfl) pa_nil))) (pe_one (pe_callB (cr_all rfl) (by rfl) T.m_all (by decide +kernel) (pa_cons (pe_lc (own := [("sign", 2)]) (g := gName 2) (by rfl) sc_made_of.nd (pi_str (pv 0)) (blkOk_by (own := [("sign", 2)]) (N := n_made_of) (sc := (defScope s_made_of)) (by decide +kernel)) (fun _ _ _ _ _ => pg_name (i := 2) sc_made_of.nd rfl (Or.inl rfl)) (fun _ _ _ _ _ => pts_nil) (fun _ _ _ _ _ => (pe_cmpR op_in_sign (pv 2) (pv 1) (by rfl)))) pa_nil)))))), ?_⟩
    refine ⟨v, rfl, v, .ty "str", .type t, .type "str", isStr v, rfl, .ty "str", hk, kit_ty hb, _, rfl, ?_⟩
    cases v with
    | str m =>
      refine iteT ?_
      have hm := hl m rfl
      have L : EvL (tLc (iStr (tVar 0)) (gName 2) tYes (tOp (fun x y H Q => ∃ (c : Nat) (z : Str), x = .str ⟨#[c]⟩ ∧ y = .str z ∧ Q (.bl (decide (c ∈ z.cps.toList))) H) (tVar 2) (tVar 1)) [2])
          (start n_made_of [V.str m, V.str z]) H (given m.length (fun _ => true) fun i => .bl (decide (m.cps.toList.getD i 0 ∈ z.cps.toList))) :=
        el_lcS (z := m) (fun _ => true) _ (ev_var rfl) (by omega) (fun _ => rfl) (fun _ _ _ _ => et_yes) (fun i H1 _ hi _ => ev_inSign (ev_var rfl) (ev_var rfl))
      rw [given_all] at L
      have e := Qt.all_range m.cps.toList fun c => decide (c ∈ z.cps.toList)
      rw [show m.cps.toList.length = m.length from by simp [Str.length]] at e
      refine (ev_cbL L fun p H1 h1 _ => ?_ : Ev _ _ H (.bl (madeOf (.str m) z))) H (Ex.refl H) _ q
      show RC _ _ _ (.bl (m.cps.toList.all fun c => decide (c ∈ z.cps.toList)))
      rw [← e]
      refine rc_all ?_
      rw [h1, List.map_map]
      rfl
    | _ => exact iteF (q H (Ex.refl H))
end
end K24
namespace K24
open PySem PySem.Spec PyProof.Rows L2 Evl Qt
theorem ev_chain {σ : L2.St} {H : Hp} {ta tb tc : TE} {r r' : R2} {x y z : V} {k1 k2 : Bool} (ha : Ev ta σ H x) (hb : Ev tb σ H y) (hr : RV r x y H (.bl k1)) (hc : Ev tc σ H z) (hr' : k1 = true → RV r' y z H (.bl k2)) :
    Ev (tChain r r' ta tb tc) σ H (.bl (k1 && k2)) := fun H1 e Q q =>
  ha H1 e _ fun H2 e2 => hb H2 (e.trans e2) _ fun H3 e3 => hr H3 ((e.trans e2).trans e3) _ fun H4 e4 => ⟨k1, rfl, by
    cases k1 with
    | true => exact iteT (hc H4 (((e.trans e2).trans e3).trans e4) _ fun H5 e5 => hr' rfl H5 ((((e.trans e2).trans e3).trans e4).trans e5) _ fun H6 e6 => q H6 ((((e2.trans e3).trans e4).trans e5).trans e6))
    | false => exact iteF (q H4 ((e2.trans e3).trans e4))⟩
def VOk (K : PySem.W.Frag) (H : Hp) (v : V) : Prop := ∃ t, Qt.Kind K H v t ∧ kitB t "str" = some (isStr v) ∧ ∀ m, v = .str m → m.length ≤ 1000
theorem VOk.ex {K : PySem.W.Frag} {H H1 : Hp} {v : V} (h : VOk K H v) (e : Ex H H1) : VOk K H1 v := by
  obtain ⟨t, h1, h2, h3⟩ := h
  exact ⟨t, h1.ex e, h2, h3⟩
theorem VOk.str {K : PySem.W.Frag} {H : Hp} {m : Str} (h : m.length ≤ 1000) : VOk K H (.str m) := ⟨"str", .base (.str m), (by decide +kernel : kitB "str" "str" = some true), fun x e => by cases e; exact h⟩
def sx : Str := PySem.Str.ofString "x."
theorem sx_l : sx.cps.toList = [120, 46] := by decide +kernel
theorem x_eq : PySem.Str.ofString "x" = ⟨#[120]⟩ := by decide +kernel
def lenOf : V → Int
  | .str m => (m.length : Int)
  | _ => 0
def fst (m : Str) : Nat := m.cps.toList.getD 0 0
def lst (m : Str) : Nat := m.cps.toList.getD (m.length - 1) 0
def isMask (m : Str) : Bool := !((!madeOf (.str m) sx || !(decide ((1 : Int) ≤ (m.length : Int)) && decide ((m.length : Int) ≤ 12)))) && !(!decide (fst m = 120) || !decide (lst m = 120))
theorem at_last (l : List Nat) (h : l ≠ []) : atI l (-1) = some (l.getD (l.length - 1) 0) := by
  have h0 : 0 < l.length := List.length_pos_iff.mpr h
  unfold atI ixN
  rw [if_neg (by decide), if_pos (by omega)]
  have e : ((-1 : Int) + (l.length : Int)).toNat = l.length - 1 := by omega
  rw [e, Option.bind_some, List.getD_eq_getElem?_getD, List.getElem?_eq_getElem (by omega)]
  rfl
def isMaskV : V → Bool
  | .str m => isMask m
  | _ => false
def spCheckMask (K : PySem.W.Frag) (CM : Addr) : Sp := fun vs H Q E => ∃ v, vs = [v] ∧ VOk K H v ∧ (isMaskV v = true → RetV .non H Q) ∧ (isMaskV v = false → ∀ H', Ex H H' → E (.ref CM) none H')
section
variable {P : Program} {w : World} {K : PySem.W.Frag} {mg : Str → Option Value} {base : Heap} {CM CV CG fG CK fK a_SMALL_WIDTH a_SMALL_SEEN : Addr}
theorem made_val {H : Hp} {v : V} {z : Str} (h : VOk K H v) : SpV (spMade K) ([v, .str z] ++ []) H (.bl (madeOf v z)) := fun H1 e Q q E => by
  obtain ⟨t, h1, h2, h3⟩ := h.ex e
  exact ⟨v, z, t, rfl, h1, h2, h3, q⟩
def spIsMask (K : PySem.W.Frag) : Sp := fun vs H Q _ => ∃ v, vs = [v] ∧ VOk K H v ∧ RetV (.bl (isMaskV v)) H Q
theorem rv_chrE {H : Hp} {c : Nat} {d : Str} (hd : d = ⟨#[120]⟩) : RV rEq (.str ⟨#[c]⟩) (.str d) H (.bl (decide (c = 120))) := by
  subst hd
  have e : decide (V.str (⟨#[c]⟩ : Str) = V.str ⟨#[120]⟩) = decide (c = 120) := by
    by_cases h : c = 120
    · subst h; simp
    · simp [h]
  rw [← e]
  exact rv_eq rfl
theorem ok_is_mask (e : Ent K mg "is_mask" s_is_mask p_is_mask) (T : Top K mg CM CV CG fG CK fK a_SMALL_WIDTH a_SMALL_SEEN) (c1 : Cal P w K mg base CX0 1 "made_of" p_made_of (spMade K)) : Cal P w K mg base CX0 2 "is_mask" p_is_mask (spIsMask K) := by
  obtain ⟨f, fd, F, m_, b_⟩ := e
  obtain ⟨f_made_of, fd_made_of, G_made_of, m_made_of, k_made_of, b_made_of⟩ := c1
  refine ⟨f, fd, F.ok sc_is_mask (fun vs H Q E h => ?_) (fun cdv A outer s H vs Q E hr h => ?_), m_, F.kp, b_⟩
  · obtain ⟨v, rfl, _⟩ := h
    rfl
  · obtain ⟨v, rfl, hv, q⟩ := h
    refine ⟨_, (pss_cons (ps_if (PW.pt (pw_or (pt_not (pt_val (pe_call G_made_of (hr.mono (by decide)) (by rfl) m_made_of k_made_of b_made_of .nil pass0 (pa_cons (pv 0) (pa_cons pe_str pa_nil))))) (pw_or1 (pt_not (pt_chain op_le op_le pe_int (pe_callB call_len_str (by rfl) T.m_len (by decide +kernel) (pa_cons (pv 0) pa_nil)) (pe_glob (v := .int 12) (by rfl) T.g_WIDEST.choose_spec ⟨_, rfl⟩)))))) (pss_one (ps_ret pe_bl)) pss_nil)
      (pss_one (ps_ret (pe_and (pe_cmpR op_eq (pe_ix ix_str (pv 0) pe_int (fun _ _ => rfl)) pe_str (nomark _)) (pe_one (pe_cmpR op_eq (pe_ix ix_str (pv 0) (pe_un un_neg pe_int) (fun _ _ => rfl)) pe_str (nomark _))))))), ?_⟩
    have t1 : Ev (tCall (spMade K) [] E0 (tCons (tVar 0) (tCons (tC (.str sx)) tNil))) (start n_is_mask [v]) H (.bl (madeOf v sx)) := ev_call (ea_cons (ev_var rfl) (ea_cons ev_c ea_nil)) (made_val hv)
    refine q_when (b := !madeOf v sx || !(decide ((1 : Int) ≤ lenOf v) && decide (lenOf v ≤ 12))) (et_or (et_not (et_B t1)) fun h => et_not (et_test (ev_chain ev_c (y := .int (lenOf v)) ?_ rv_I0 ev_c fun _ => rv_I0))) (fun h H1 e1 => ?_) (fun h H1 e1 => ?_)
    · cases v with
      | str m =>
        obtain ⟨t, _, _, h3⟩ := hv
        exact ev_cb (ea_cons (ev_var rfl) ea_nil) fun H2 _ _ q => ⟨m, rfl, by have := h3 m rfl; rw [sizeLine_eq]; omega, q H2 (Ex.refl H2)⟩
      | _ => exact Bool.noConfusion (show true = false from h)
    · have hf : isMaskV v = false := by
        cases v with
        | str m =>
          have h' : (!madeOf (.str m) sx || !(decide ((1 : Int) ≤ (m.length : Int)) && decide ((m.length : Int) ≤ 12))) = true := h
          show isMask m = false
          unfold isMask
          rw [h']
          rfl
        | _ => rfl
      refine s_ret ev_c fun H2 e2 => ?_
      have z := q H2 (e1.trans e2)
      rw [hf] at z
      exact z
    · cases v with
      | str m =>
        have h' : (!madeOf (.str m) sx || !(decide ((1 : Int) ≤ (m.length : Int)) && decide ((m.length : Int) ≤ 12))) = false := h
        have hl : 1 ≤ m.length ∧ m.length ≤ 12 := by
          simp only [Bool.or_eq_false_iff, Bool.not_eq_false', Bool.and_eq_true, decide_eq_true_eq] at h'
          omega
        have hln : m.cps.toList.length = m.length := by simp [Str.length]
        have hne : m.cps.toList ≠ [] := fun z => by
          rw [z] at hln
          simp at hln
          omega
        have a0 : atI m.cps.toList ((0 : Nat) : Int) = some (fst m) := by
          refine atI_nat ?_
          unfold fst
          rw [List.getD_eq_getElem?_getD, List.getElem?_eq_getElem (by omega)]
          rfl
        have a1 : atI m.cps.toList (-1) = some (lst m) := by
          have z := at_last m.cps.toList hne
          rw [hln] at z
          exact z
        have hs : m.length ≤ 100000 := by omega
        have key : isMask m = (decide (fst m = 120) && decide (lst m = 120)) := by
          unfold isMask
          rw [h']
          simp
        refine s_ret (v := .bl (isMaskV (.str m))) (ev_is (ev_andV (ev_op (ev_op (ev_var rfl) ev_c (rv_ixS hs a0)) ev_c (rv_chrE x_eq))
          fun _ => ev_op (ev_op (ev_var rfl) (ev_un ev_c ru_neg) (rv_ixS hs a1)) ev_c (rv_chrE x_eq)) ?_) fun H2 e2 => q H2 (e1.trans e2)
        show V.bl _ = V.bl (isMask m)
        rw [key]
      | _ => exact Bool.noConfusion (show true = false from h)
theorem ok_check_mask (e : Ent K mg "check_mask" s_check_mask p_check_mask) (T : Top K mg CM CV CG fG CK fK a_SMALL_WIDTH a_SMALL_SEEN) (c1 : Cal P w K mg base CX0 2 "is_mask" p_is_mask (spIsMask K)) : Cal P w K mg base (L2.CX P w) 3 "check_mask" p_check_mask (spCheckMask K CM) := by
  obtain ⟨f, fd, F, m_, b_⟩ := e
  obtain ⟨f_is_mask, fd_is_mask, G_is_mask, m_is_mask, k_is_mask, b_is_mask⟩ := c1
  refine ⟨f, fd, F.okX sc_check_mask (fun vs H Q E h => ?_) (fun cdv A outer s H vs Q E hr h => ?_), m_, F.kp, b_⟩
  · obtain ⟨v, rfl, _⟩ := h
    rfl
  · obtain ⟨v, rfl, hv, q1, q2⟩ := h
    refine ⟨_, (pss_one (ps_if (pt_not (pt_val (pe_call G_is_mask (hr.mono (by decide)) (by rfl) m_is_mask k_is_mask b_is_mask .nil pass0 (pa_cons (pv 0) pa_nil)))) (pss_one (ps_raise rfl (takes_of rfl rfl rfl rfl) (pmk_own PySem.F.excBase_ValueError T.e_BadMask.x T.e_BadMask.g T.e_BadMask.k (raises_own T.e_BadMask.b T.e_BadMask.t) (by rfl)))) pss_nil)), ?_⟩
    exact s_when (b := !isMaskV v) (et_not (et_B (ev_call (ea_cons (ev_var rfl) ea_nil) fun H1 e1 Q q E => ⟨v, rfl, hv.ex e1, q⟩))) (fun h H1 e1 => q2 (by simpa using h) H1 e1) (fun h H1 e1 => q1 (by simpa using h) H1 e1)
end
end K24
namespace K24
open PySem PySem.Spec PyProof.Rows L2 Evl Qt
def isI : V → Bool
  | .int _ => true
  | .bl _ => true
  | _ => false
def isB : V → Bool
  | .bl _ => true
  | _ => false
def NOk (K : PySem.W.Frag) (H : Hp) (v : V) : Prop := ∃ t, Qt.Kind K H v t ∧ kitB t "int" = some (isI v) ∧ kitB t "bool" = some (isB v)
def isNum (lo hi : Int) : V → Bool
  | .int i => decide (lo ≤ i) && decide (i ≤ hi)
  | _ => false
theorem rc_isi {K : PySem.W.Frag} {H : Hp} {v : V} {t T : String} {b : Bool} (k : Qt.Kind K H v t) (hb : kitB t T = some b) : RC (rIsi K) [v, .ty T] H (.bl b) := fun H1 e Q q =>
  ⟨v, .ty T, .type t, .type T, b, rfl, .ty T, k.ex e, kit_ty hb, q H1 (Ex.refl H1)⟩
def spLetters : Sp := fun vs H Q _ => ∃ n : Nat, vs = [.int (n : Int)] ∧ 1 ≤ n ∧ n ≤ 4 ∧ RetV .non H Q
def spLettersX (K : PySem.W.Frag) (CLt : Addr) : Sp := fun vs H Q E => ∃ v, vs = [v] ∧ NOk K H v ∧ (isNum 1 4 v = true → RetV .non H Q) ∧ (isNum 1 4 v = false → ∀ H', Ex H H' → E (.ref CLt) none H')
def spNumC : Sp := fun vs H Q _ => ∃ (v lo hi : Int), vs = [.int v, .int lo, .int hi] ∧ lo ≤ v ∧ v ≤ hi ∧ RetV .non H Q
section
variable {P : Program} {w : World} {K : PySem.W.Frag} {mg : Str → Option Value} {base : Heap} {CM CV CG fG CK fK a_SMALL_WIDTH a_SMALL_SEEN : Addr}
def spIsNumber (K : PySem.W.Frag) : Sp := fun vs H Q _ => ∃ v lo hi, vs = [v, .int lo, .int hi] ∧ NOk K H v ∧ RetV (.bl (isNum lo hi v)) H Q
theorem ok_is_number (e : Ent K mg "is_number" s_is_number p_is_number) (T : Top K mg CM CV CG fG CK fK a_SMALL_WIDTH a_SMALL_SEEN) : Cal P w K mg base CX0 1 "is_number" p_is_number (spIsNumber K) := by
  obtain ⟨f, fd, F, m_, b_⟩ := e
  refine ⟨f, fd, F.ok sc_is_number (fun vs H Q E h => ?_) (fun cdv A outer s H vs Q E hr h => ?_), m_, F.kp, b_⟩
  · obtain ⟨v, lo, hi, rfl, _⟩ := h
    rfl
  · obtain ⟨v, lo, hi, rfl, ⟨t, k1, k2, k3⟩, q⟩ := h
    refine ⟨_, (pss_one (ps_ret (pe_and (pe_callB call_isi (by rfl) T.m_isinstance (by decide +kernel) (pa_cons (pv 0) (pa_cons (pe_bltn (v := .ty "int") (by rfl) T.m_int (by decide +kernel) rfl) pa_nil))) (pe_and (pe_not (pe_callB call_isi (by rfl) T.m_isinstance (by decide +kernel) (pa_cons (pv 0) (pa_cons (pe_bltn (v := .ty "bool") (by rfl) T.m_bool (by decide +kernel) rfl) pa_nil)))) (pe_one (pe_chain op_le op_le (pv 1) (pv 0) (pv 2))))))), ?_⟩
    refine s_ret (ev_is (ev_andV (a := isI v) (b := !isB v && isNum lo hi v) (ev_cb (ea_cons (ev_var rfl) (ea_cons ev_c ea_nil)) (rc_isi k1 k2)) fun h1 => ev_andV (ev_notV (ev_cb (ea_cons (ev_var rfl) (ea_cons ev_c ea_nil)) (rc_isi k1 k3))) fun h2 => ?_) ?_) q
    · cases v with
      | int i => exact ev_chain (ev_var rfl) (ev_var rfl) rv_I0 (ev_var rfl) fun _ => rv_I0
      | bl b => exact Bool.noConfusion (show false = true from h2)
      | _ => exact Bool.noConfusion (show false = true from h1)
    · cases v <;> rfl
theorem ok_numC (e : Ent K mg "check_number" s_check_number p_check_number) (T : Top K mg CM CV CG fG CK fK a_SMALL_WIDTH a_SMALL_SEEN) (c1 : Cal P w K mg base CX0 1 "is_number" p_is_number (spIsNumber K)) : Cal P w K mg base CX0 5 "check_number" p_check_number spNumC := by
  obtain ⟨f, fd, F, m_, b_⟩ := e
  obtain ⟨f_is_number, fd_is_number, G_is_number, m_is_number, k_is_number, b_is_number⟩ := c1
  refine ⟨f, fd, F.ok sc_check_number (fun vs H Q E h => ?_) (fun cdv A outer s H vs Q E hr h => ?_), m_, F.kp, b_⟩
  · obtain ⟨v, lo, hi, rfl, _⟩ := h
    rfl
  · obtain ⟨v, lo, hi, rfl, h1, h2, q⟩ := h
    refine ⟨_, (pss_one (ps_if (pt_not (pt_val (pe_call G_is_number (hr.mono (by decide)) (by rfl) m_is_number k_is_number b_is_number .nil pass0 (pa_cons (pv 0) (pa_cons (pv 1) (pa_cons (pv 2) pa_nil)))))) (pss_one ps_never) pss_nil)), ?_⟩
    refine s_when (b := !isNum lo hi (.int v)) (et_not (et_B (ev_call (ea_cons (ev_var rfl) (ea_cons (ev_var rfl) (ea_cons (ev_var rfl) ea_nil))) fun H1 e1 Q q E => ⟨.int v, lo, hi, rfl, ⟨"int", .base (.int _), (by decide +kernel : kitB "int" "int" = some true), (by decide +kernel : kitB "int" "bool" = some false)⟩, q⟩))) (fun h H1 x1 => ?_) (fun h H1 x1 => q H1 x1)
    have z : isNum lo hi (.int v) = true := by
      show (decide (lo ≤ v) && decide (v ≤ hi)) = true
      rw [decide_eq_true h1, decide_eq_true h2]
      rfl
    rw [z] at h
    cases h
theorem ok_letters (e : Ent K mg "check_letters" s_check_letters p_check_letters) (T : Top K mg CM CV CG fG CK fK a_SMALL_WIDTH a_SMALL_SEEN) (c1 : Cal P w K mg base CX0 1 "is_number" p_is_number (spIsNumber K)) : Cal P w K mg base CX0 2 "check_letters" p_check_letters spLetters := by
  obtain ⟨f, fd, F, m_, b_⟩ := e
  obtain ⟨f_is_number, fd_is_number, G_is_number, m_is_number, k_is_number, b_is_number⟩ := c1
  refine ⟨f, fd, F.ok sc_check_letters (fun vs H Q E h => ?_) (fun cdv A outer s H vs Q E hr h => ?_), m_, F.kp, b_⟩
  · obtain ⟨n, rfl, _⟩ := h
    rfl
  · obtain ⟨n, rfl, h1, h4, q⟩ := h
    refine ⟨_, (pss_one (ps_if (pt_not (pt_val (pe_call G_is_number (hr.mono (by decide)) (by rfl) m_is_number k_is_number b_is_number .nil pass0 (pa_cons (pv 0) (pa_cons pe_int (pa_cons (pe_callB call_len_str (by rfl) T.m_len (by decide +kernel) (pa_cons (pe_glob (v := .str (PySem.Str.ofString "abcd")) (by rfl) T.g_LETTERS.choose_spec ⟨_, rfl⟩) pa_nil)) pa_nil)))))) (pss_one ps_never) pss_nil)), ?_⟩
    refine s_when (b := !isNum 1 4 (.int (n : Int))) (et_not (et_B (ev_call (vs := [.int (n : Int), .int 1, .int 4]) (ea_cons (ev_var rfl) (ea_cons ev_c (ea_cons (ev_is (ev_cb (ea_cons ev_c ea_nil) (rc_lenS (z := PySem.Str.ofString "abcd") (by decide +kernel))) (by rw [show (PySem.Str.ofString "abcd").length = 4 by decide +kernel]; rfl)) ea_nil))) fun H1 e1 Q q E => ⟨.int (n : Int), 1, 4, rfl, ⟨"int", .base (.int _), (by decide +kernel : kitB "int" "int" = some true), (by decide +kernel : kitB "int" "bool" = some false)⟩, q⟩))) (fun hh => ?_) (fun _ H1 e1 => q H1 e1)
    have z : isNum 1 4 (.int (n : Int)) = true := by
      show (decide ((1 : Int) ≤ (n : Int)) && decide ((n : Int) ≤ 4)) = true
      rw [decide_eq_true (by omega), decide_eq_true (by omega)]
      rfl
    rw [z] at hh
    cases hh
end
end K24
namespace K24
open PySem PySem.Spec PyProof.Rows L2 Evl Qt
/-- the places of the x of a mask -/
def openM (m : Str) : List Nat := (List.range m.length).filter fun i => decide (m.cps.toList.getD i 0 = 120)
def natsV (l : List Nat) : List V := l.map fun (i : Nat) => V.int (i : Int)
def spSeen (K : PySem.W.Frag) (CM : Addr) : Sp := fun vs H Q E => ∃ v, vs = [v] ∧ VOk K H v ∧ (∀ m, v = .str m → isMask m = true → RetL (natsV (openM m)) H Q) ∧ (isMaskV v = false → ∀ H', Ex H H' → E (.ref CM) none H')
def spSeen0 (K : PySem.W.Frag) : Sp := fun vs H Q _ => ∃ m, vs = [.str m] ∧ isMask m = true ∧ RetL (natsV (openM m)) H Q
theorem isMask_len {m : Str} (h : isMask m = true) : 1 ≤ m.length ∧ m.length ≤ 12 := by
  unfold isMask at h
  simp only [Bool.and_eq_true, Bool.not_eq_true', Bool.or_eq_false_iff, Bool.not_eq_false', decide_eq_true_eq] at h
  omega
section
variable {P : Program} {w : World} {K : PySem.W.Frag} {mg : Str → Option Value} {base : Heap} {CM CV CG fG CK fK a_SMALL_WIDTH a_SMALL_SEEN : Addr}
theorem et_x {σ : L2.St} {H : Hp} {ta tb : TE} {c : Nat} {d : Str} (hd : d = ⟨#[120]⟩) (ha : Ev ta σ H (.str ⟨#[c]⟩)) (hb : Ev tb σ H (.str d)) : EvT (tTest (tOp rEq ta tb)) σ H (decide (c = 120)) := by
  refine et_test (ev_op ha hb ?_)
  subst hd
  have e : decide (V.str (⟨#[c]⟩ : Str) = V.str ⟨#[120]⟩) = decide (c = 120) := by
    by_cases h : c = 120
    · subst h; simp
    · simp [h]
  rw [← e]
  exact rv_eq rfl
theorem ok_seen (e : Ent K mg "seen" s_seen p_seen) (T : Top K mg CM CV CG fG CK fK a_SMALL_WIDTH a_SMALL_SEEN) (c1 : Cal P w K mg base (L2.CX P w) 3 "check_mask" p_check_mask (spCheckMask K CM)) : Cal P w K mg base (L2.CX P w) 4 "seen" p_seen (spSeen K CM) := by
  obtain ⟨f, fd, F, m_, b_⟩ := e
  obtain ⟨f_check_mask, fd_check_mask, G_check_mask, m_check_mask, k_check_mask, b_check_mask⟩ := c1
  refine ⟨f, fd, F.okX sc_seen (fun vs H Q E h => ?_) (fun cdv A outer s H vs Q E hr h => ?_), m_, F.kp, b_⟩
  · obtain ⟨v, rfl, _⟩ := h
    rfl
  · obtain ⟨v, rfl, hv, q1, q2⟩ := h
    refine ⟨_, (pss_cons (ps_expr (pe_call G_check_mask (hr.mono (by decide)) (by rfl) m_check_mask k_check_mask b_check_mask .nil (passes_call (takes_of rfl rfl rfl rfl) (fun _ _ _ _ h => h)) (pa_cons (pv 0) pa_nil)))
      (pss_one (ps_ret (pe_lc (own := [("place", 1), ("sign", 2)]) (g := gTup K 2 (gCons (gName 1) (gCons (gName 2) gNil))) (by rfl) sc_seen.nd (pi_enumS (by rfl) T.m_enumerate (pa_cons (pv 0) pa_nil)) (blkOk_by (own := [("place", 1), ("sign", 2)]) (N := n_seen) (sc := (defScope s_seen)) (by decide +kernel)) (fun _ _ _ _ _ => by exact (pg_tup rfl (pgs_cons (by exact pg_name (i := 1) sc_seen.nd rfl (Or.inl rfl)) (pgs_cons (by exact pg_name (i := 2) sc_seen.nd rfl (Or.inl rfl)) pgs_nil)))) (fun _ _ _ _ _ => pts_one (pt_cmpR op_eq (pv 2) pe_str (nomark _))) (fun _ _ _ _ _ => (pv 1)))))), ?_⟩
    refine ⟨_, rfl, v, rfl, hv, fun hm H1 e1 => ?_, fun hm H' e' => q2 hm H' e'⟩
    cases v with
    | str m =>
      have hl := isMask_len hm
      refine s_retL (el_lcSE (z := m) (fun i => decide (m.cps.toList.getD i 0 = 120)) (fun i => V.int (i : Int)) (ea_cons (ev_var rfl) ea_nil) (by omega) (fun _ _ => rfl)
        (fun i H2 _ _ => et_x x_eq (ev_var rfl) ev_c) (fun i H2 _ _ _ => ev_var rfl)) fun p H2 np e2 h2 => ?_
      exact q1 m rfl hm p H2 (fresh_back e1 np) (e1.trans e2) h2
    | _ => exact Bool.noConfusion (show false = true from hm)
theorem seen0 (c : Cal P w K mg base (L2.CX P w) 4 "seen" p_seen (spSeen K CM)) : Cal P w K mg base CX0 4 "seen" p_seen (spSeen0 K) :=
  c.calm fun vs H Q E h => by
    obtain ⟨m, rfl, hm, q⟩ := h
    have hl := isMask_len hm
    exact ⟨.str m, rfl, .str (by omega), fun m' e _ => by cases e; exact q, fun z => by
      have z' : isMask m = false := z
      rw [hm] at z'
      cases z'⟩
end
end K24
namespace K24
open PySem PySem.Spec PyProof.Rows L2 Evl Qt
section
variable {P : Program} {w : World} {K : PySem.W.Frag} {mg : Str → Option Value} {base : Heap} {CM CV CG fG CK fK a_SMALL_WIDTH a_SMALL_SEEN : Addr}
theorem open_len (m : Str) : (openM m).length ≤ m.length := by
  unfold openM
  have h := List.length_filter_le (fun i => decide (m.cps.toList.getD i 0 = 120)) (List.range m.length)
  rw [List.length_range] at h
  exact h
theorem range_getD {β : Type} (l : List Nat) (g : Nat → β) : (List.range l.length).map (fun i => g (l.getD i 0)) = l.map g := by
  apply List.ext_getElem
  · simp
  · intro i h1 h2
    simp only [List.length_map] at h2
    simp [List.getD_eq_getElem?_getD, List.getElem?_eq_getElem h2]
theorem natsV_get {l : List Nat} {i : Nat} {x : V} (h : (natsV l)[i]? = some x) : i < l.length ∧ x = .int ((l.getD i 0 : Nat) : Int) := by
  unfold natsV at h
  rw [List.getElem?_map] at h
  cases e : l[i]? with
  | none => rw [e] at h; cases h
  | some c =>
    rw [e] at h
    refine ⟨(List.getElem?_eq_some_iff.mp e).1, ?_⟩
    rw [List.getD_eq_getElem?_getD, e]
    exact (Option.some.inj h).symm
theorem natsV_len (l : List Nat) : (natsV l).length = l.length := List.length_map ..
theorem nil_l : (PySem.Str.ofString "").cps.toList = [] := by decide +kernel
end
end K24
namespace K24
open PySem PySem.Spec PyProof.Rows L2 Evl Qt
section
variable {P : Program} {w : World} {K : PySem.W.Frag} {mg : Str → Option Value} {base : Heap} {CM CV CG fG CK fK a_SMALL_WIDTH a_SMALL_SEEN : Addr}
theorem rc_int {H : Hp} {i : Int} : RC (fun xs H Q => (∃ i, xs = [V.int i] ∧ Q (.int i) H) ∨ ∃ k, xs = [V.bl k] ∧ Q (.int (if k then 1 else 0)) H) [.int i] H (.int i) := fun H1 _ _ q => .inl ⟨i, rfl, q H1 (Ex.refl H1)⟩
theorem evr {σ : L2.St} {H : Hp} {r : Addr} {xs : List V} {j : Int} {v : V} (hr : H r = some (.lst xs)) (h0 : σ[0]? = some (some (.ref r))) (ha : atI xs j = some v) : Ev (tOp (rIxL K) (tVar 0) (tC (.int j))) σ H v :=
  ev_op (ev_var h0) ev_c (rv_ixL (sq_of hr) ha)
theorem rc_lenL {H : Hp} {a : Addr} {xs : List V} (h : SqL K H a xs) : RC (fun xs H Q => ∃ x n, xs = [x] ∧ LenV K x H n ∧ Q (.int (n : Int)) H) [.ref a] H (.int (xs.length : Int)) := fun H1 e _ q =>
  ⟨.ref a, xs.length, rfl, .inl ⟨xs, ex_l e h, rfl⟩, q H1 (Ex.refl H1)⟩
theorem xr_upd {r : Addr} {H : Hp} {o : HO} : Xr K r H (upd H r o) := fun a u ne h => by rw [upd_ne ne]; exact h
theorem ok_taken (e : Ent K mg "_law_taken" s__law_taken p__law_taken) (T : Top K mg CM CV CG fG CK fK a_SMALL_WIDTH a_SMALL_SEEN) : Cal P w K mg base CX0 1 "_law_taken" p__law_taken (spTaken K) := by
  obtain ⟨f, fd, F, m_, b_⟩ := e
  refine ⟨f, fd, F.ok sc__law_taken (fun vs H Q E h => ?_) (fun cdv A outer s H vs Q E hr h => ?_), m_, F.kp, b_⟩
  · obtain ⟨r, sc, ns, m, rfl, _⟩ := h
    rfl
  · obtain ⟨r, sc, ns, m, rfl, h1, h2, hR, q⟩ := h
    obtain ⟨i, sd, x, hr1, hs, hl, i0, s0, s1⟩ := id hR
    refine ⟨_, (pss_cons (ps_if (pt_cmpR op_gt (pe_ix ix_list (pv 0) pe_int (fun _ _ => rfl)) pe_int (nomark _)) (pss_cons (ps_set (i := 2) sc__law_taken.nd rfl (Or.inl rfl) (pe_op op_mod (pe_callTy call_int1 (by rfl) T.m_int (by decide +kernel) (pa_cons (pe_ix ix_list (pv 0) pe_int (fun _ _ => rfl)) pa_nil)) (pv 1)))
      (pss_cons (ps_asg (pe_op op_fdiv (pe_ix ix_list (pv 0) pe_int (fun _ _ => rfl)) (pv 1)) (pg_sub (pv 0) pe_int set_list))
      (pss_one (ps_ret (pv 2))))) pss_nil)
      (pss_cons (ps_asg (pe_op op_add (pe_ix ix_list (pv 0) pe_int (fun _ _ => rfl)) pe_int) (pg_sub (pv 0) pe_int set_list))
      (pss_cons (ps_if (pt_cmpR op_gt (pe_ix ix_list (pv 0) pe_int (fun _ _ => rfl)) (pe_callB call_len (by rfl) T.m_len (by decide +kernel) (pa_cons (pe_ix ix_list (pv 0) pe_int (fun _ _ => rfl)) pa_nil)) (nomark _)) (pss_cons (ps_asg (pe_op op_mod (pe_callTy call_int1 (by rfl) T.m_int (by decide +kernel) (pa_cons (pe_op op_add (pe_op op_mul (pe_ix ix_list (pv 0) pe_int (fun _ _ => rfl)) pe_int) pe_int) pa_nil)) pe_int) (pg_sub (pv 0) pe_int set_list))
      (pss_one (ps_ret (pe_op op_mod (pe_callTy call_int1 (by rfl) T.m_int (by decide +kernel) (pa_cons (pe_op op_fdiv (pe_ix ix_list (pv 0) pe_int (fun _ _ => rfl)) pe_int) pa_nil)) (pv 1))))) pss_nil)
      (pss_cons (ps_set (i := 3) sc__law_taken.nd rfl (Or.inl rfl) (pe_ix ix_list (pe_ix ix_list (pv 0) pe_int (fun _ _ => rfl)) (pe_op op_sub (pe_ix ix_list (pv 0) pe_int (fun _ _ => rfl)) pe_int) (fun _ _ => rfl)))
      (pss_cons (ps_asg (pe_op op_mod (pe_callTy call_int1 (by rfl) T.m_int (by decide +kernel) (pa_cons (pe_op op_add (pe_op op_add (pe_op op_mul (pe_ix ix_list (pv 0) pe_int (fun _ _ => rfl)) pe_int) (pv 3)) pe_int) pa_nil)) pe_int) (pg_sub (pv 0) pe_int set_list))
      (pss_cons (ps_if (pt_cmpR op_ge (pv 3) (pe_op op_pow pe_int pe_int) (nomark _)) (pss_one (ps_asg (pe_op op_fdiv (pv 3) (pv 1)) (pg_sub (pv 0) pe_int set_list))) pss_nil)
      (pss_one (ps_ret (pe_op op_mod (pe_callTy call_int1 (by rfl) T.m_int (by decide +kernel) (pa_cons (pv 3) pa_nil)) (pv 1)))))))))), ?_⟩
    have fin : ∀ {H' : Hp} {i' s' x' : Int}, Xr K r H H' → H' r = some (.lst [.ref sc, .int i', .int s', .int x']) → 0 ≤ i' → 0 ≤ s' → s' < 2147483647 → Qt.Row K r sc ns H' := fun X hr a b c => ⟨_, _, _, hr, hR.sq X, hl, a, b, c⟩
    have md : ∀ z : Int, 0 ≤ z % m ∧ z % m < m := fun z => ⟨Int.emod_nonneg z (by omega), Int.emod_lt_of_pos z (by omega)⟩
    have mg_ : ∀ z : Int, 0 ≤ z % 2147483647 ∧ z % 2147483647 < 2147483647 := fun z => ⟨Int.emod_nonneg z (by omega), Int.emod_lt_of_pos z (by omega)⟩
    refine q_when (b := decide (0 < x)) (et_test (ev_op (evr hr1 rfl (atI_nat (j := 3) rfl)) ev_c rv_I0)) (fun hb H1 e1 => ?_) (fun hb H1 e1 => ?_)
    · -- the rest of a great cell
      have r1 := e1 _ _ hr1
      refine q_asg (ev_op (ev_cb (ea_cons (evr r1 rfl (atI_nat (j := 3) rfl)) ea_nil) rc_int) (ev_var rfl) (rv_I (show 0 < m by omega))) fun H2 e2 => ?_
      have r2 := e2 _ _ r1
      refine q_setL (j := 3) r2 (ev_op (evr r2 rfl (atI_nat (j := 3) rfl)) (ev_var rfl) (rv_I ⟨by omega, by omega⟩)) (ev_var rfl) ev_c (by simp) fun H3 e3 => ?_
      refine s_ret (ev_var rfl) fun H4 e4 => ?_
      have X : Xr K r H H4 := (((Xr.of e1).trans (Xr.of e2)).trans (Xr.of e3)).trans (xr_upd.trans (Xr.of e4))
      exact q _ H4 (md x).1 (md x).2 X (fin X (e4 _ _ upd_same) i0 s0 s1)
    · have r1 := e1 _ _ hr1
      refine q_setL (j := 1) r1 (ev_op (evr r1 rfl (atI_nat (j := 1) rfl)) ev_c rv_I0) (ev_var rfl) ev_c (by simp) fun H2 e2 => ?_
      have X2 : Xr K r H (upd H2 r (.lst [.ref sc, .int (i + 1), .int sd, .int x])) := ((Xr.of e1).trans (Xr.of e2)).trans xr_upd
      have r2 : (upd H2 r (.lst [.ref sc, .int (i + 1), .int sd, .int x])) r = some (.lst [.ref sc, .int (i + 1), .int sd, .int x]) := upd_same
      generalize hG : upd H2 r (.lst [.ref sc, .int (i + 1), .int sd, .int x]) = G at X2 r2
      have hs2 : SqL K G sc (ns.map V.int) := hR.sq X2
      show tSeq _ _ _ _ (upd H2 r (.lst [.ref sc, .int (i + 1), .int sd, .int x]))
      rw [hG]
      refine q_when (b := decide (((ns.map V.int).length : Int) < i + 1)) (et_test (ev_op (evr r2 rfl (atI_nat (j := 1) rfl)) (ev_cb (ea_cons (evr r2 rfl (atI_nat (j := 0) rfl)) ea_nil) (rc_lenL hs2)) rv_I0)) (fun hc H3 e3 => ?_) (fun hc H3 e3 => ?_)
      · -- mixed numbers
        have r3 := e3 _ _ r2
        refine q_setL (j := 2) r3 (ev_op (ev_cb (ea_cons (ev_op (ev_op (evr r3 rfl (atI_nat (j := 2) rfl)) ev_c (rv_I (.inl ⟨by omega, by omega⟩))) ev_c rv_I0) ea_nil) rc_int) ev_c (rv_I (by decide))) (ev_var rfl) ev_c (by simp) fun H4 e4 => ?_
        have X4 := (X2.trans (Xr.of e3)).trans ((Xr.of e4).trans (xr_upd (o := .lst [.ref sc, .int (i + 1), .int ((sd * 48271 + 11) % 2147483647), .int x])))
        refine s_ret (ev_op (ev_cb (ea_cons (ev_op (evr (xs := [.ref sc, .int (i + 1), .int ((sd * 48271 + 11) % 2147483647), .int x]) upd_same rfl (atI_nat (j := 2) rfl)) ev_c (rv_I ⟨by decide, by decide⟩)) ea_nil) rc_int) (ev_var rfl) (rv_I (show 0 < m by omega))) fun H5 e5 => ?_
        have X5 := X4.trans (Xr.of e5)
        exact q _ H5 (md _).1 (md _).2 X5 (fin X5 (e5 _ _ upd_same) (by omega) (mg_ _).1 (mg_ _).2)
      · have hi : i < (ns.length : Int) := by
          have z := of_decide_eq_false hc
          rw [List.length_map] at z
          omega
        have r3 := e3 _ _ r2
        have X3 := X2.trans (Xr.of e3)
        obtain ⟨n, rfl⟩ := Int.eq_ofNat_of_zero_le i0
        have hcell : atI (ns.map V.int) ((n : Int) + 1 - 1) = some (.int (ns.getD n 0)) := by
          have e0 : (n : Int) + 1 - 1 = (n : Int) := by omega
          rw [e0]
          refine atI_nat ?_
          rw [List.getElem?_map, List.getD_eq_getElem?_getD, List.getElem?_eq_getElem (by omega)]
          rfl
        refine q_asg (ev_op (evr r3 rfl (atI_nat (j := 0) rfl)) (ev_op (evr r3 rfl (atI_nat (j := 1) rfl)) ev_c rv_I0) (rv_ixL (ex_l e3 hs2) hcell)) fun H4 e4 => ?_
        have r4 := e4 _ _ r3
        refine q_setL (j := 2) r4 (ev_op (ev_cb (ea_cons (ev_op (ev_op (ev_op (evr r4 rfl (atI_nat (j := 2) rfl)) ev_c (rv_I (.inl ⟨by omega, by omega⟩))) (ev_var rfl) rv_I0) ev_c rv_I0) ea_nil) rc_int) ev_c (rv_I (by decide))) (ev_var rfl) ev_c (by simp) fun H5 e5 => ?_
        have X5 := (X3.trans (Xr.of e4)).trans ((Xr.of e5).trans (xr_upd (o := .lst [.ref sc, .int ((n : Int) + 1), .int ((sd * 48271 + ns.getD n 0 + 11) % 2147483647), .int x])))
        have r5 : (upd H5 r (.lst [.ref sc, .int ((n : Int) + 1), .int ((sd * 48271 + ns.getD n 0 + 11) % 2147483647), .int x])) r = some (.lst [.ref sc, .int ((n : Int) + 1), .int ((sd * 48271 + ns.getD n 0 + 11) % 2147483647), .int x]) := upd_same
        generalize hG5 : upd H5 r (.lst [.ref sc, .int ((n : Int) + 1), .int ((sd * 48271 + ns.getD n 0 + 11) % 2147483647), .int x]) = G5 at X5 r5
        show tSeq _ _ _ _ (upd H5 r (.lst [.ref sc, .int ((n : Int) + 1), .int ((sd * 48271 + ns.getD n 0 + 11) % 2147483647), .int x]))
        rw [hG5]
        refine q_when (b := decide (((10 : Int) ^ (18 : Int).toNat) ≤ ns.getD n 0)) (et_test (ev_op (ev_var rfl) (ev_op ev_c ev_c (rv_I ⟨by decide, by decide, by decide⟩)) rv_I0)) (fun hd H6 e6 => ?_) (fun hd H6 e6 => ?_)
        · have r6 := e6 _ _ r5
          refine s_setL (j := 3) r6 (ev_op (ev_var rfl) (ev_var rfl) (rv_I ⟨by omega, by omega⟩)) (ev_var rfl) ev_c (by simp) fun H7 e7 => ?_
          dsimp only
          refine s_ret (ev_op (ev_cb (ea_cons (ev_var rfl) ea_nil) rc_int) (ev_var rfl) (rv_I (show 0 < m by omega))) fun H8 e8 => ?_
          have X8 := ((X5.trans (Xr.of e6)).trans (Xr.of e7)).trans (xr_upd.trans (Xr.of e8))
          exact q _ H8 (md _).1 (md _).2 X8 (fin X8 (e8 _ _ upd_same) (by omega) (mg_ _).1 (mg_ _).2)
        · refine s_ret (ev_op (ev_cb (ea_cons (ev_var rfl) ea_nil) rc_int) (ev_var rfl) (rv_I (show 0 < m by omega))) fun H7 e7 => ?_
          have X7 := (X5.trans (Xr.of e6)).trans (Xr.of e7)
          exact q _ H7 (md _).1 (md _).2 X7 (fin X7 (e7 _ _ (e6 _ _ r5)) (by omega) (mg_ _).1 (mg_ _).2)
end
end K24
namespace K24
open PySem PySem.Spec PyProof.Rows L2 Evl Qt
def spMaskDraw (K : PySem.W.Frag) : Sp := fun vs H Q _ => ∃ (r sc : Addr) (ns : List Int) (wd : Int), vs = [.ref r, .int wd] ∧ 1 ≤ wd ∧ wd ≤ 12 ∧ Qt.Row K r sc ns H ∧
  ∀ (z : Str) (H' : Hp), isMask z = true → (z.length : Int) ≤ wd → Xr K r H H' → Qt.Row K r sc ns H' → Q (.str z) H'
def spOpen : Sp := fun vs H Q _ => ∃ m : Str, vs = [.str m] ∧ m.length ≤ 1000 ∧ RetL (natsV (openM m)) H Q
theorem madeOf_of {z : Str} (h : ∀ c ∈ z.cps.toList, c = 120 ∨ c = 46) : madeOf (.str z) sx = true := by
  show (z.cps.toList.all fun c => decide (c ∈ sx.cps.toList)) = true
  rw [sx_l, List.all_eq_true]
  intro c hc
  rcases h c hc with rfl | rfl <;> decide
theorem isMask_of {z : Str} (h : ∀ c ∈ z.cps.toList, c = 120 ∨ c = 46) (h1 : 1 ≤ z.length) (h2 : z.length ≤ 12) (a : fst z = 120) (b : lst z = 120) : isMask z = true := by
  unfold isMask
  rw [madeOf_of h, a, b, decide_eq_true (show (1 : Int) ≤ (z.length : Int) by omega), decide_eq_true (show (z.length : Int) ≤ 12 by omega)]
  rfl
section
variable {P : Program} {w : World} {K : PySem.W.Frag} {mg : Str → Option Value} {base : Heap} {CM CV CG fG CK fK a_SMALL_WIDTH a_SMALL_SEEN : Addr}
theorem dx_l : (PySem.Str.ofString ".x").cps.toList = [46, 120] := by decide +kernel
theorem xone : (PySem.Str.ofString "x").cps.toList = [120] := by decide +kernel
theorem x_len : (PySem.Str.ofString "x").length = 1 := by decide +kernel
end
end K24
namespace K24
open PySem PySem.Spec PyProof.Rows L2 Evl Qt
def sl : Str := PySem.Str.ofString "abcd"
def isRow (m : Str) : Bool := madeOf (.str m) sl && decide (m.length ≤ 60)
def isRowV : V → Bool
  | .str m => isRow m
  | _ => false
def spIsRow (K : PySem.W.Frag) : Sp := fun vs H Q _ => ∃ v, vs = [v] ∧ VOk K H v ∧ RetV (.bl (isRowV v)) H Q
def viewM (row : Str) (l : List Nat) (st : Nat) : Str := txt (l.map fun p => row.cps.toList.getD (st + p) 0)
def viewsM (row m : Str) : List Str := (List.range (row.length + 1 - m.length)).map (viewM row (openM m))
def missB (x y : Str) (i : Nat) : Bool := !decide (y.cps.toList.getD i 0 = 63) && !decide (y.cps.toList.getD i 0 = x.cps.toList.getD i 0)
def missM (x y : Str) : Nat := ((List.range x.length).filter (missB x y)).length
def spCheckRow : Sp := fun vs H Q _ => ∃ m, vs = [.str m] ∧ isRow m = true ∧ RetV .non H Q
def spViewAt (K : PySem.W.Frag) : Sp := fun vs H Q _ => ∃ (row : Str) (a : Addr) (l : List Nat) (st : Nat), vs = [.str row, .ref a, .int (st : Int)] ∧ SqL K H a (natsV l) ∧ (∀ p ∈ l, st + p < row.length) ∧ l.length ≤ 1000 ∧ row.length ≤ 1000 ∧ RetV (.str (viewM row l st)) H Q
def spOthers : Sp := fun vs H Q _ => ∃ x y : Str, vs = [.str x, .str y] ∧ y.length = x.length ∧ x.length ≤ 1000 ∧ RetV (.int (missM x y : Int)) H Q
def spViews : Sp := fun vs H Q _ => ∃ row m : Str, vs = [.str row, .str m] ∧ isRow row = true ∧ isMask m = true ∧ RetL ((viewsM row m).map V.str) H Q
theorem q_eq : PySem.Str.ofString "?" = ⟨#[63]⟩ := by decide +kernel
theorem row_len {m : Str} (h : isRow m = true) : m.length ≤ 60 := by
  unfold isRow at h
  simp only [Bool.and_eq_true, decide_eq_true_eq] at h
  exact h.2
theorem open_lt {m : Str} {p : Nat} (h : p ∈ openM m) : p < m.length := List.mem_range.mp (List.mem_filter.mp h).1
theorem rv_chrs {H : Hp} {c d : Nat} : RV rNe (.str ⟨#[c]⟩) (.str ⟨#[d]⟩) H (.bl (!decide (c = d))) := by
  have e : decide (V.str (⟨#[c]⟩ : Str) = V.str ⟨#[d]⟩) = decide (c = d) := by
    by_cases h : c = d
    · subst h; simp
    · simp [h]
  rw [← e]
  exact rv_ne rfl
section
variable {P : Program} {w : World} {K : PySem.W.Frag} {mg : Str → Option Value} {base : Heap} {CM CV CG fG CK fK a_SMALL_WIDTH a_SMALL_SEEN : Addr}
theorem ok_is_row (e : Ent K mg "is_row" s_is_row p_is_row) (T : Top K mg CM CV CG fG CK fK a_SMALL_WIDTH a_SMALL_SEEN) (c1 : Cal P w K mg base CX0 1 "made_of" p_made_of (spMade K)) : Cal P w K mg base CX0 2 "is_row" p_is_row (spIsRow K) := by
  obtain ⟨f, fd, F, m_, b_⟩ := e
  obtain ⟨f_made_of, fd_made_of, G_made_of, m_made_of, k_made_of, b_made_of⟩ := c1
  refine ⟨f, fd, F.ok sc_is_row (fun vs H Q E h => ?_) (fun cdv A outer s H vs Q E hr h => ?_), m_, F.kp, b_⟩
  · obtain ⟨v, rfl, _⟩ := h
    rfl
  · obtain ⟨v, rfl, hv, q⟩ := h
    refine ⟨_, (pss_one (ps_ret (pe_and (pe_call G_made_of (hr.mono (by decide)) (by rfl) m_made_of k_made_of b_made_of .nil pass0 (pa_cons (pv 0) (pa_cons (pe_glob (v := .str (PySem.Str.ofString "abcd")) (by rfl) T.g_LETTERS.choose_spec ⟨_, rfl⟩) pa_nil))) (pe_one (pe_cmpR op_le (pe_callB call_len_str (by rfl) T.m_len (by decide +kernel) (pa_cons (pv 0) pa_nil)) (pe_glob (v := .int 60) (by rfl) T.g_LONGEST.choose_spec ⟨_, rfl⟩) (nomark _)))))), ?_⟩
    refine s_ret (v := .bl (isRowV v)) (ev_is (ev_andV (a := madeOf v sl) (b := decide (lenOf v ≤ 60)) (ev_call (ea_cons (ev_var rfl) (ea_cons ev_c ea_nil)) (made_val hv)) fun h => ev_op (x := .int (lenOf v)) ?_ ev_c rv_I0) ?_) q
    · cases v with
      | str m =>
        obtain ⟨t, _, _, h3⟩ := hv
        exact ev_cb (ea_cons (ev_var rfl) ea_nil) fun H2 _ _ q => ⟨m, rfl, by have := h3 m rfl; rw [sizeLine_eq]; omega, q H2 (Ex.refl H2)⟩
      | _ => exact Bool.noConfusion (show false = true from h)
    · cases v with
      | str m =>
        show V.bl (madeOf (.str m) sl && decide ((m.length : Int) ≤ 60)) = V.bl (madeOf (.str m) sl && decide (m.length ≤ 60))
        rw [decide_eq_decide.mpr (show (m.length : Int) ≤ 60 ↔ m.length ≤ 60 by omega)]
      | _ => rfl
theorem ok_check_row (e : Ent K mg "check_row" s_check_row p_check_row) (T : Top K mg CM CV CG fG CK fK a_SMALL_WIDTH a_SMALL_SEEN) (c1 : Cal P w K mg base CX0 2 "is_row" p_is_row (spIsRow K)) : Cal P w K mg base CX0 3 "check_row" p_check_row spCheckRow := by
  obtain ⟨f, fd, F, m_, b_⟩ := e
  obtain ⟨f_is_row, fd_is_row, G_is_row, m_is_row, k_is_row, b_is_row⟩ := c1
  refine ⟨f, fd, F.ok sc_check_row (fun vs H Q E h => ?_) (fun cdv A outer s H vs Q E hr h => ?_), m_, F.kp, b_⟩
  · obtain ⟨m, rfl, _⟩ := h
    rfl
  · obtain ⟨m, rfl, hm, q⟩ := h
    have hl := row_len hm
    refine ⟨_, (pss_one (ps_if (pt_not (pt_val (pe_call G_is_row (hr.mono (by decide)) (by rfl) m_is_row k_is_row b_is_row .nil pass0 (pa_cons (pv 0) pa_nil)))) (pss_one ps_never) pss_nil)), ?_⟩
    refine s_when (b := !isRowV (.str m)) (et_not (et_B (ev_call (ea_cons (ev_var rfl) ea_nil) fun H1 e1 Q q E => ⟨.str m, rfl, .str (by omega), q⟩))) (fun h H1 e1 => ?_) (fun h H1 e1 => q H1 e1)
    rw [show isRowV (.str m) = true from hm] at h
    cases h
theorem sum_nat (a b : Nat) : (a : Int) + (b : Int) = ((a + b : Nat) : Int) := by omega
theorem at_sign {z : Str} {i : Nat} (h : i < z.length) : atI z.cps.toList (i : Int) = some (z.cps.toList.getD i 0) := atI_nat (by
  have hl := len_l z
  rw [List.getElem?_eq_getElem (by omega), List.getD_eq_getElem?_getD, List.getElem?_eq_getElem (by omega)]
  rfl)
theorem view_list (row : Str) (l : List Nat) (st : Nat) : (List.range l.length).map (fun i => V.str ⟨#[row.cps.toList.getD (st + l.getD i 0) 0]⟩) = (l.map fun p => row.cps.toList.getD (st + p) 0).map fun c => V.str ⟨#[c]⟩ := by
  rw [range_getD l fun c => V.str ⟨#[row.cps.toList.getD (st + c) 0]⟩, List.map_map]
  rfl
theorem mem_getD {l : List Nat} {i : Nat} (h : i < l.length) : l.getD i 0 ∈ l := by
  rw [List.getD_eq_getElem?_getD, List.getElem?_eq_getElem h]
  exact List.getElem_mem h
theorem ok_view_at (e : Ent K mg "view_at" s_view_at p_view_at) (T : Top K mg CM CV CG fG CK fK a_SMALL_WIDTH a_SMALL_SEEN) : Cal P w K mg base CX0 1 "view_at" p_view_at (spViewAt K) := by
  obtain ⟨f, fd, F, m_, b_⟩ := e
  refine ⟨f, fd, F.ok sc_view_at (fun vs H Q E h => ?_) (fun cdv A outer s H vs Q E hr h => ?_), m_, F.kp, b_⟩
  · obtain ⟨row, a, l, st, rfl, _⟩ := h
    rfl
  · obtain ⟨row, a, l, st, rfl, ha, hp, hl, hr', q⟩ := h
    refine ⟨_, (pss_one (ps_ret (pe_join pe_str (pe_lc (own := [("place", 3)]) (g := gName 3) (by rfl) sc_view_at.nd (pi_list (pv 1)) (blkOk_by (own := [("place", 3)]) (N := n_view_at) (sc := (defScope s_view_at)) (by decide +kernel)) (fun _ _ _ _ _ => pg_name (i := 3) sc_view_at.nd rfl (Or.inl rfl)) (fun _ _ _ _ _ => pts_nil) (fun _ _ _ _ _ => (pe_ix ix_str (pv 0) (pe_op op_add (pv 2) (pv 3)) (fun _ _ => rfl))))))), ?_⟩
    have z : EvL (tLc (iList K (tVar 1)) (gName 3) tYes (tOp rIxS (tVar 0) (tOp (rI0 fun i j => V.int (i + j)) (tVar 2) (tVar 3))) [3]) (start n_view_at [.str row, .ref a, .int (st : Int)]) H _ :=
      el_lcL (fun _ => true) (fun i => V.str ⟨#[row.cps.toList.getD (st + l.getD i 0) 0]⟩) (ev_var rfl) ha (by rw [natsV_len]; omega) (fun _ => rfl) (fun _ _ _ _ _ => et_yes) (fun i x H1 e1 hx _ => by
        obtain ⟨hi, rfl⟩ := natsV_get hx
        refine ev_op (ev_var rfl) (ev_op (ev_var rfl) (ev_var rfl) rv_I0) ?_
        rw [sum_nat]
        exact rv_ixS (by omega) (at_sign (hp _ (mem_getD hi))))
    rw [given_all, natsV_len, view_list] at z
    exact s_ret (ev_join nil_l z (by rw [List.length_map]; omega)) q
theorem ok_others (e : Ent K mg "others" s_others p_others) (T : Top K mg CM CV CG fG CK fK a_SMALL_WIDTH a_SMALL_SEEN) : Cal P w K mg base CX0 1 "others" p_others spOthers := by
  obtain ⟨f, fd, F, m_, b_⟩ := e
  refine ⟨f, fd, F.ok sc_others (fun vs H Q E h => ?_) (fun cdv A outer s H vs Q E hr h => ?_), m_, F.kp, b_⟩
  · obtain ⟨x, y, rfl, _⟩ := h
    rfl
  · obtain ⟨x, y, rfl, hl, hx, q⟩ := h
    refine ⟨_, (pss_one (ps_ret (pe_callB call_len (by rfl) T.m_len (by decide +kernel) (pa_cons (pe_lc (own := [("letter", 2), ("sign", 3)]) (g := gTup K 2 (gCons (gName 2) (gCons (gName 3) gNil))) (by rfl) sc_others.nd (pi_zipS (by rfl) T.m_zip (pa_cons (pv 0) (pa_cons (pv 1) pa_nil))) (blkOk_by (own := [("letter", 2), ("sign", 3)]) (N := n_others) (sc := (defScope s_others)) (by decide +kernel)) (fun _ _ _ _ _ => by exact (pg_tup rfl (pgs_cons (by exact pg_name (i := 2) sc_others.nd rfl (Or.inl rfl)) (pgs_cons (by exact pg_name (i := 3) sc_others.nd rfl (Or.inl rfl)) pgs_nil)))) (fun _ _ _ _ _ => pts_one (PW.pt (pw_and (pt_cmpR op_ne (pv 3) (pe_glob (v := .str (PySem.Str.ofString "?")) (by rfl) T.g_UNREAD.choose_spec ⟨_, rfl⟩) (nomark _)) (pw_and1 (pt_cmpR op_ne (pv 3) (pv 2) (nomark _)))))) (fun _ _ _ _ _ => (pv 3))) pa_nil)))), ?_⟩
    refine s_ret (v := .int (missM x y : Int)) (ev_is (ev_lenL (el_lcZS (x := x) (y := y) (missB x y) (fun i => sg y i) (ea_cons (ev_var rfl) (ea_cons (ev_var rfl) ea_nil)) (by omega) hl (fun _ _ => rfl)
      (fun i H1 _ hi => et_and (et_test (ev_op (ev_var rfl) ev_c ?_)) fun _ => et_test (ev_op (ev_var rfl) (ev_var rfl) rv_chrs)) (fun i H1 _ hi _ => ev_var rfl))) ?_) q
    · rw [q_eq]
      exact rv_chrs
    · congr 2
      unfold given missM
      rw [List.length_map]
theorem ok_views (e : Ent K mg "views" s_views p_views) (T : Top K mg CM CV CG fG CK fK a_SMALL_WIDTH a_SMALL_SEEN) (c1 : Cal P w K mg base CX0 3 "check_row" p_check_row spCheckRow) (c2 : Cal P w K mg base CX0 4 "seen" p_seen (spSeen0 K))
    (c3 : Cal P w K mg base CX0 1 "view_at" p_view_at (spViewAt K)) : Cal P w K mg base CX0 5 "views" p_views spViews := by
  obtain ⟨f, fd, F, m_, b_⟩ := e
  obtain ⟨f_check_row, fd_check_row, G_check_row, m_check_row, k_check_row, b_check_row⟩ := c1
  obtain ⟨f_seen, fd_seen, G_seen, m_seen, k_seen, b_seen⟩ := c2
  obtain ⟨f_view_at, fd_view_at, G_view_at, m_view_at, k_view_at, b_view_at⟩ := c3
  refine ⟨f, fd, F.ok sc_views (fun vs H Q E h => ?_) (fun cdv A outer s H vs Q E hr h => ?_), m_, F.kp, b_⟩
  · obtain ⟨row, m, rfl, _⟩ := h
    rfl
  · obtain ⟨row, m, rfl, hr', hm, q⟩ := h
    have h1 := row_len hr'
    have h2 := isMask_len hm
    have h3 := open_len m
    refine ⟨_, (pss_cons (ps_expr (pe_call G_check_row (hr.mono (by decide)) (by rfl) m_check_row k_check_row b_check_row .nil pass0 (pa_cons (pv 0) pa_nil)))
      (pss_cons (ps_set (i := 2) sc_views.nd rfl (Or.inr rfl) (pe_call G_seen (hr.mono (by decide)) (by rfl) m_seen k_seen b_seen .nil pass0 (pa_cons (pv 1) pa_nil)))
      (pss_one (ps_ret (pe_lc (own := [("start", 3)]) (g := gName 3) (by rfl) sc_views.nd (pi_range1 (by rfl) T.m_range (pa_cons (pe_op op_add (pe_op op_sub (pe_callB call_len_str (by rfl) T.m_len (by decide +kernel) (pa_cons (pv 0) pa_nil)) (pe_callB call_len_str (by rfl) T.m_len (by decide +kernel) (pa_cons (pv 1) pa_nil))) pe_int) pa_nil)) (blkOk_by (own := [("start", 3)]) (N := n_views) (sc := (defScope s_views)) (by decide +kernel)) (fun _ _ _ _ _ => pg_name (i := 3) sc_views.nd rfl (Or.inl rfl)) (fun _ _ _ _ _ => pts_nil) (fun _ _ _ _ _ => (pe_call G_view_at (hr.mono (by decide)) (by rfl) m_view_at k_view_at b_view_at .nil pass0 (pa_cons (pv 0) (pa_cons (pv 2) (pa_cons (pv 3) pa_nil)))))))))), ?_⟩
    refine q_drop (v := .non) (ev_call (ea_cons (ev_var rfl) ea_nil) fun H1 e1 Q q E => ⟨row, rfl, hr', q⟩) fun H1 e1 => ?_
    refine q_asgL (xs := natsV (openM m)) (el_call (ea_cons (ev_var rfl) ea_nil) fun H2 e2 Q q E => ⟨m, rfl, hm, q⟩) fun a H2 na e2 ha => ?_
    refine s_retL (xs := (viewsM row m).map V.str) ?_ fun p H3 np e3 h3 => q p H3 (fresh_back (e1.trans e2) np) ((e1.trans e2).trans e3) h3
    have z := el_lcRn (te := tCall (spViewAt K) [] E0 (tCons (tVar 0) (tCons (tVar 2) (tCons (tVar 3) tNil)))) (t := tYes) (j := 3) (vs := [3]) (σ := (start n_views [.str row, .str m]).set 2 (some (.ref a))) (H := H2) (n := (row.length : Int) - (m.length : Int) + 1)
      (ta := tCons (tOp (rI0 fun i j => V.int (i + j)) (tOp (rI0 fun i j => V.int (i - j)) (tCB (fun xs H Q => ∃ z : Str, xs = [.str z] ∧ z.length ≤ sizeLine ∧ Q (.int (z.length : Int)) H) (tCons (tVar 0) tNil))
        (tCB (fun xs H Q => ∃ z : Str, xs = [.str z] ∧ z.length ≤ sizeLine ∧ Q (.int (z.length : Int)) H) (tCons (tVar 1) tNil))) (tC (.int 1))) tNil)
      (fun _ => true) (fun i => V.str (viewM row (openM m) i)) (ea_cons (ev_op (ev_op (ev_cb (ea_cons (ev_var rfl) ea_nil) (rc_lenS (by omega))) (ev_cb (ea_cons (ev_var rfl) ea_nil) (rc_lenS (by omega))) rv_I0) ev_c rv_I0) ea_nil)
      (by omega) (fun _ => rfl) (fun _ _ _ _ => et_yes) (fun i H3 e3 hi _ => ev_call (ea_cons (ev_var rfl) (ea_cons (ev_var rfl) (ea_cons (ev_var rfl) ea_nil))) fun H4 e4 Q q E => ⟨row, a, openM m, i, rfl, sq_of ((e3.trans e4) _ _ ha), fun p hp => by
        have := open_lt hp
        omega, by omega, by omega, q⟩)
    rw [given_all] at z
    rw [show ((row.length : Int) - (m.length : Int) + 1).toNat = row.length + 1 - m.length by omega] at z
    unfold viewsM
    rw [List.map_map]
    exact z
end
end K24
namespace K24
open PySem PySem.Spec PyProof.Rows L2 Evl Qt
def sa : Str := sl ++ PySem.Str.ofString "?"
def isLook (m : Str) : V → Bool
  | .str z => madeOf (.str z) sa && decide (z.length = (openM m).length)
  | _ => false
def nearM (row m z : Str) (n : Nat) : List Nat := (List.range (row.length + 1 - m.length)).filter fun i => decide (missM (viewM row (openM m) i) z ≤ n)
def spCheckLook (K : PySem.W.Frag) (CV : Addr) : Sp := fun vs H Q E => ∃ (v : V) (m : Str), vs = [v, .str m] ∧ VOk K H v ∧ m.length ≤ 1000 ∧ (isLook m v = true → RetV .non H Q) ∧ (isLook m v = false → ∀ H', Ex H H' → E (.ref CV) none H')
def spIsLook (K : PySem.W.Frag) : Sp := fun vs H Q _ => ∃ (v : V) (m : Str), vs = [v, .str m] ∧ VOk K H v ∧ m.length ≤ 1000 ∧ RetV (.bl (isLook m v)) H Q
def spNear0 : Sp := fun vs H Q _ => ∃ (row m z : Str) (n : Nat), vs = [.str row, .str m, .str z, .int (n : Int)] ∧ isRow row = true ∧ isMask m = true ∧ isLook m (.str z) = true ∧ n ≤ 12 ∧ RetL (natsV (nearM row m z n)) H Q
def spFind0 : Sp := fun vs H Q _ => ∃ (row m z : Str), vs = [.str row, .str m, .str z] ∧ isRow row = true ∧ isMask m = true ∧ isLook m (.str z) = true ∧ RetL (natsV (nearM row m z 0)) H Q
theorem look_len {m z : Str} (h : isLook m (.str z) = true) : z.length = (openM m).length := by
  have h' : (madeOf (.str z) sa && decide (z.length = (openM m).length)) = true := h
  rw [Bool.and_eq_true, decide_eq_true_eq] at h'
  exact h'.2
theorem look_str {m : Str} {v : V} (h : isLook m v = true) : ∃ z, v = .str z := by
  cases v with
  | str z => exact ⟨z, rfl⟩
  | _ => exact Bool.noConfusion (show false = true from h)
theorem view_len (row : Str) (l : List Nat) (st : Nat) : (viewM row l st).length = l.length := by
  unfold viewM
  rw [txt_len, List.length_map]
theorem views_len (row m : Str) : (viewsM row m).length = row.length + 1 - m.length := by
  unfold viewsM
  rw [List.length_map, List.length_range]
theorem views_get {row m : Str} {i : Nat} {y : V} (h : ((viewsM row m).map V.str)[i]? = some y) : i < row.length + 1 - m.length ∧ y = .str (viewM row (openM m) i) := by
  unfold viewsM at h
  rw [List.map_map, List.getElem?_map] at h
  cases e : (List.range (row.length + 1 - m.length))[i]? with
  | none => rw [e] at h; cases h
  | some c =>
    rw [e] at h
    have hi := (List.getElem?_eq_some_iff.mp e).1
    rw [List.length_range] at hi
    rw [List.getElem?_range hi] at e
    cases e
    exact ⟨hi, (Option.some.inj h).symm⟩
section
variable {P : Program} {w : World} {K : PySem.W.Frag} {mg : Str → Option Value} {base : Heap} {CM CV CG fG CK fK a_SMALL_WIDTH a_SMALL_SEEN : Addr}
theorem ok_is_look (e : Ent K mg "is_look" s_is_look p_is_look) (T : Top K mg CM CV CG fG CK fK a_SMALL_WIDTH a_SMALL_SEEN) (c1 : Cal P w K mg base CX0 1 "made_of" p_made_of (spMade K)) : Cal P w K mg base CX0 2 "is_look" p_is_look (spIsLook K) := by
  obtain ⟨f, fd, F, m_, b_⟩ := e
  obtain ⟨f_made_of, fd_made_of, G_made_of, m_made_of, k_made_of, b_made_of⟩ := c1
  refine ⟨f, fd, F.ok sc_is_look (fun vs H Q E h => ?_) (fun cdv A outer s H vs Q E hr h => ?_), m_, F.kp, b_⟩
  · obtain ⟨v, m, rfl, _⟩ := h
    rfl
  · obtain ⟨v, m, rfl, hv, hm, q⟩ := h
    refine ⟨_, (pss_one (ps_ret (pe_and (pe_call G_made_of (hr.mono (by decide)) (by rfl) m_made_of k_made_of b_made_of .nil pass0 (pa_cons (pv 0) (pa_cons (pe_op op_add_str (pe_glob (v := .str (PySem.Str.ofString "abcd")) (by rfl) T.g_LETTERS.choose_spec ⟨_, rfl⟩) (pe_glob (v := .str (PySem.Str.ofString "?")) (by rfl) T.g_UNREAD.choose_spec ⟨_, rfl⟩)) pa_nil))) (pe_one (pe_cmpR op_eq (pe_callB call_len_str (by rfl) T.m_len (by decide +kernel) (pa_cons (pv 0) pa_nil)) (pe_m1 PySem.F.slot_str_count PySem.F.type_str_count mt_count (pv 1) pe_str) (nomark _)))))), ?_⟩
    refine s_ret (ev_is (ev_andV (a := madeOf v sa) (b := decide (V.int (lenOf v) = V.int ((openM m).length : Int))) (ev_call (ea_cons (ev_var rfl) (ea_cons (ev_op ev_c ev_c fun H1 _ Q q => ⟨sl, _, rfl, rfl, by decide +kernel, q H1 (Ex.refl H1)⟩) ea_nil)) (made_val hv)) fun h => ev_op (y := .int ((openM m).length : Int)) ?_ ?_ (rv_eq rfl)) ?_) q
    · cases v with
      | str z =>
        obtain ⟨t, _, _, h3⟩ := hv
        exact ev_cb (ea_cons (ev_var rfl) ea_nil) (rc_lenS (by have := h3 z rfl; omega))
      | _ => exact Bool.noConfusion (show false = true from h)
    · refine ev_is (ev_count (z := m) (c := 120) (ev_var rfl) (x_eq ▸ ev_c)) ?_
      rw [count_range, len_l]
      rfl
    · cases v with
      | str z =>
        show V.bl (madeOf (.str z) sa && decide (V.int (z.length : Int) = V.int ((openM m).length : Int))) = V.bl (madeOf (.str z) sa && decide (z.length = (openM m).length))
        have e : decide (V.int (z.length : Int) = V.int ((openM m).length : Int)) = decide (z.length = (openM m).length) := decide_eq_decide.mpr ⟨fun h => by injection h with h; omega, fun h => by rw [h]⟩
        rw [e]
      | _ => rfl
theorem ok_check_look (e : Ent K mg "check_look" s_check_look p_check_look) (T : Top K mg CM CV CG fG CK fK a_SMALL_WIDTH a_SMALL_SEEN) (c1 : Cal P w K mg base CX0 2 "is_look" p_is_look (spIsLook K)) : Cal P w K mg base (L2.CX P w) 3 "check_look" p_check_look (spCheckLook K CV) := by
  obtain ⟨f, fd, F, m_, b_⟩ := e
  obtain ⟨f_is_look, fd_is_look, G_is_look, m_is_look, k_is_look, b_is_look⟩ := c1
  refine ⟨f, fd, F.okX sc_check_look (fun vs H Q E h => ?_) (fun cdv A outer s H vs Q E hr h => ?_), m_, F.kp, b_⟩
  · obtain ⟨v, m, rfl, _⟩ := h
    rfl
  · obtain ⟨v, m, rfl, hv, hm, q1, q2⟩ := h
    refine ⟨_, (pss_one (ps_if (pt_not (pt_val (pe_call G_is_look (hr.mono (by decide)) (by rfl) m_is_look k_is_look b_is_look .nil pass0 (pa_cons (pv 0) (pa_cons (pv 1) pa_nil))))) (pss_one (ps_raise rfl (takes_of rfl rfl rfl rfl) (pmk_own PySem.F.excBase_ValueError T.e_BadView.x T.e_BadView.g T.e_BadView.k (raises_own T.e_BadView.b T.e_BadView.t) (by rfl)))) pss_nil)), ?_⟩
    refine s_when (b := !isLook m v) (et_not (et_B (ev_call (ea_cons (ev_var rfl) (ea_cons (ev_var rfl) ea_nil)) fun H1 e1 Q q E => ⟨v, m, rfl, hv.ex e1, hm, q⟩))) (fun h H1 e1 => q2 (by simpa using h) H1 e1) (fun h H1 e1 => q1 (by simpa using h) H1 e1)
end
end K24
namespace K24
open PySem PySem.Spec PyProof.Rows L2 Evl Qt
def spLine (K : PySem.W.Frag) : Sp := fun vs H Q _ => ∃ (r sc : Addr) (ns : List Int) (most lt : Int), vs = [.ref r, .int most, .int lt] ∧ 0 ≤ most ∧ most ≤ 60 ∧ 1 ≤ lt ∧ lt ≤ 4 ∧ Qt.Row K r sc ns H ∧
  ∀ (z : Str) (H' : Hp), isRow z = true → (z.length : Int) ≤ most → Xr K r H H' → Qt.Row K r sc ns H' → Q (.str z) H'
/-- the same: which letters were drawn is told, too -/
def spLineL (K : PySem.W.Frag) : Sp := fun vs H Q _ => ∃ (r sc : Addr) (ns : List Int) (most lt : Int), vs = [.ref r, .int most, .int lt] ∧ 0 ≤ most ∧ most ≤ 60 ∧ 1 ≤ lt ∧ lt ≤ 4 ∧ Qt.Row K r sc ns H ∧
  ∀ (z : Str) (H' : Hp), (∀ c ∈ z.cps.toList, 97 ≤ c ∧ (c : Int) < 97 + lt) → (z.length : Int) ≤ most → Xr K r H H' → Qt.Row K r sc ns H' → Q (.str z) H'
def spLViews : Sp := fun vs H Q _ => ∃ row m : Str, vs = [.str row, .str m] ∧ row.length ≤ 1000 ∧ m.length ≤ 1000 ∧ RetL ((viewsM row m).map V.str) H Q
theorem sl_l : sl.cps.toList = [97, 98, 99, 100] := by decide +kernel
theorem isRow_of {z : Str} (h : ∀ c ∈ z.cps.toList, c ∈ [97, 98, 99, 100]) (hl : z.length ≤ 60) : isRow z = true := by
  unfold isRow
  rw [decide_eq_true hl, Bool.and_true]
  show (z.cps.toList.all fun c => decide (c ∈ sl.cps.toList)) = true
  rw [sl_l, List.all_eq_true]
  intro c hc
  exact decide_eq_true (h c hc)
section
variable {P : Program} {w : World} {K : PySem.W.Frag} {mg : Str → Option Value} {base : Heap} {CM CV CG fG CK fK a_SMALL_WIDTH a_SMALL_SEEN : Addr}
end
end K24
namespace K24
open PySem PySem.Spec PyProof.Rows L2 Evl Qt
def spTells : Sp := fun vs H Q _ => ∃ row m : Str, vs = [.str row, .str m] ∧ isRow row = true ∧ isMask m = true ∧ RetV (.bl (decide (viewsM row m).Nodup)) H Q
def spLTells : Sp := fun vs H Q _ => ∃ row m : Str, vs = [.str row, .str m] ∧ row.length ≤ 1000 ∧ m.length ≤ 1000 ∧ RetV (.bl (decide (viewsM row m).Nodup)) H Q
section
variable {P : Program} {w : World} {K : PySem.W.Frag} {mg : Str → Option Value} {base : Heap} {CM CV CG fG CK fK a_SMALL_WIDTH a_SMALL_SEEN : Addr}
theorem viewsM_len (row m : Str) : (viewsM row m).length = row.length + 1 - m.length := by
  unfold viewsM
  rw [List.length_map, List.length_range]
def spUnlike (K : PySem.W.Frag) : Sp := fun vs H Q _ => ∃ (a : Addr) (xs : List Str), vs = [.ref a] ∧ SqL K H a (xs.map V.str) ∧ xs.length ≤ 2000 ∧ RetV (.bl (decide xs.Nodup)) H Q
/-- all_unlike of a new list -/
theorem ev_unlikeN {E : XK} {σ : L2.St} {H : Hp} {te : TE} {xs : List Str} (h : EvL te σ H (xs.map V.str)) (hz : xs.length ≤ 2000) : Ev (tCall (spUnlike K) [] E (tCons te tNil)) σ H (.bl (decide xs.Nodup)) := fun H1 e Q q =>
  h H1 e _ fun p H2 np e2 hp => ⟨p, xs, rfl, sq_of hp, hz, fun H3 e3 => q H3 (e2.trans e3)⟩
theorem ok_tells (e : Ent K mg "tells" s_tells p_tells) (T : Top K mg CM CV CG fG CK fK a_SMALL_WIDTH a_SMALL_SEEN) (c1 : Cal P w K mg base CX0 5 "views" p_views spViews) (c2 : Cal P w K mg base CX0 1 "all_unlike" p_all_unlike (spUnlike K)) : Cal P w K mg base CX0 6 "tells" p_tells spTells := by
  obtain ⟨f, fd, F, m_, b_⟩ := e
  obtain ⟨f_views, fd_views, G_views, m_views, k_views, b_views⟩ := c1
  obtain ⟨f_all_unlike, fd_all_unlike, G_all_unlike, m_all_unlike, k_all_unlike, b_all_unlike⟩ := c2
  refine ⟨f, fd, F.ok sc_tells (fun vs H Q E h => ?_) (fun cdv A outer s H vs Q E hr h => ?_), m_, F.kp, b_⟩
  · obtain ⟨row, m, rfl, _⟩ := h
    rfl
  · obtain ⟨row, m, rfl, hr', hm, q⟩ := h
    have l1 := row_len hr'
    refine ⟨_, (pss_one (ps_ret (pe_call G_all_unlike (hr.mono (by decide)) (by rfl) m_all_unlike k_all_unlike b_all_unlike .nil pass0 (pa_cons (pe_call G_views (hr.mono (by decide)) (by rfl) m_views k_views b_views .nil pass0 (pa_cons (pv 0) (pa_cons (pv 1) pa_nil))) pa_nil)))), ?_⟩
    exact s_ret (ev_unlikeN (E := E0) (xs := viewsM row m) (el_call (ea_cons (ev_var rfl) (ea_cons (ev_var rfl) ea_nil)) fun H1 e1 Q q E => ⟨row, m, rfl, hr', hm, q⟩) (by rw [viewsM_len]; omega)) q
end
end K24
namespace K24
open PySem PySem.Spec PyProof.Rows L2 Evl Qt
def ringV (row : Str) (l : List Nat) (st : Nat) : Str := txt (l.map fun p => row.cps.toList.getD ((st + p) % row.length) 0)
def ringM (row m : Str) : List Str := (List.range row.length).map (ringV row (openM m))
def spCheckRing : Sp := fun vs H Q _ => ∃ m, vs = [.str m] ∧ isRow m = true ∧ 1 ≤ m.length ∧ RetV .non H Q
def spRingView (K : PySem.W.Frag) : Sp := fun vs H Q _ => ∃ (row : Str) (a : Addr) (l : List Nat) (i : Nat), vs = [.str row, .ref a, .int (i : Int)] ∧ SqL K H a (natsV l) ∧ l.length ≤ 1000 ∧ 1 ≤ row.length ∧ row.length ≤ 1000 ∧ RetV (.str (ringV row l i)) H Q
def spRing : Sp := fun vs H Q _ => ∃ row m : Str, vs = [.str row, .str m] ∧ isRow row = true ∧ 1 ≤ row.length ∧ isMask m = true ∧ RetL ((ringM row m).map V.str) H Q
def spRingTells : Sp := fun vs H Q _ => ∃ row m : Str, vs = [.str row, .str m] ∧ isRow row = true ∧ 1 ≤ row.length ∧ isMask m = true ∧ RetV (.bl (decide (ringM row m).Nodup)) H Q
theorem ringM_len (row m : Str) : (ringM row m).length = row.length := by
  unfold ringM
  rw [List.length_map, List.length_range]
theorem mod_nat (i p n : Nat) : V.int (((i : Int) + (p : Int)) % (n : Int)) = V.int (((i + p) % n : Nat) : Int) := by
  congr 1
section
variable {P : Program} {w : World} {K : PySem.W.Frag} {mg : Str → Option Value} {base : Heap} {CM CV CG fG CK fK a_SMALL_WIDTH a_SMALL_SEEN : Addr}
theorem ok_check_ring (e : Ent K mg "check_ring" s_check_ring p_check_ring) (T : Top K mg CM CV CG fG CK fK a_SMALL_WIDTH a_SMALL_SEEN) (c1 : Cal P w K mg base CX0 3 "check_row" p_check_row spCheckRow) : Cal P w K mg base CX0 4 "check_ring" p_check_ring spCheckRing := by
  obtain ⟨f, fd, F, m_, b_⟩ := e
  obtain ⟨f_check_row, fd_check_row, G_check_row, m_check_row, k_check_row, b_check_row⟩ := c1
  refine ⟨f, fd, F.ok sc_check_ring (fun vs H Q E h => ?_) (fun cdv A outer s H vs Q E hr h => ?_), m_, F.kp, b_⟩
  · obtain ⟨m, rfl, _⟩ := h
    rfl
  · obtain ⟨m, rfl, hm, h0, q⟩ := h
    have h1 := row_len hm
    refine ⟨_, (pss_cons (ps_expr (pe_call G_check_row (hr.mono (by decide)) (by rfl) m_check_row k_check_row b_check_row .nil pass0 (pa_cons (pv 0) pa_nil)))
      (pss_one (ps_if (pt_not (pt_truth (pv 0) (by intro _; rfl))) (pss_one ps_never) pss_nil))), ?_⟩
    refine q_drop (v := .non) (ev_call (ea_cons (ev_var rfl) ea_nil) fun H1 e1 Q q E => ⟨m, rfl, hm, q⟩) fun H1 e1 => ?_
    refine s_when (b := !((m.length : Int) != 0)) (et_not (et_str (ev_var rfl) (by omega))) (fun h => ?_) (fun _ H2 e2 => q H2 (e1.trans e2))
    have z : ((m.length : Int) != 0) = true := by
      rw [bne_iff_ne]
      omega
    rw [z] at h
    cases h
theorem ok_ring_view (e : Ent K mg "ring_view" s_ring_view p_ring_view) (T : Top K mg CM CV CG fG CK fK a_SMALL_WIDTH a_SMALL_SEEN) : Cal P w K mg base CX0 1 "ring_view" p_ring_view (spRingView K) := by
  obtain ⟨f, fd, F, m_, b_⟩ := e
  refine ⟨f, fd, F.ok sc_ring_view (fun vs H Q E h => ?_) (fun cdv A outer s H vs Q E hr h => ?_), m_, F.kp, b_⟩
  · obtain ⟨row, a, l, i, rfl, _⟩ := h
    rfl
  · obtain ⟨row, a, l, i, rfl, ha, hl, h0, h1, q⟩ := h
    refine ⟨_, (pss_one (ps_ret (pe_join pe_str (pe_lc (own := [("place", 3)]) (g := gName 3) (by rfl) sc_ring_view.nd (pi_list (pv 1)) (blkOk_by (own := [("place", 3)]) (N := n_ring_view) (sc := (defScope s_ring_view)) (by decide +kernel)) (fun _ _ _ _ _ => pg_name (i := 3) sc_ring_view.nd rfl (Or.inl rfl)) (fun _ _ _ _ _ => pts_nil) (fun _ _ _ _ _ => (pe_ix ix_str (pv 0) (pe_op op_mod (pe_op op_add (pv 2) (pv 3)) (pe_callB call_len_str (by rfl) T.m_len (by decide +kernel) (pa_cons (pv 0) pa_nil))) (fun _ _ => rfl))))))), ?_⟩
    refine s_ret (v := .str (ringV row l i)) (ev_join (l := l.map fun p => row.cps.toList.getD ((i + p) % row.length) 0) nil_l (el_is (el_lcL (fun _ => true) (fun k => V.str ⟨#[row.cps.toList.getD ((i + l.getD k 0) % row.length) 0]⟩) (ev_var rfl) ha (by rw [natsV_len]; omega) (fun _ => rfl) (fun _ _ _ _ _ => et_yes) (fun k x H6 e6 hx _ => ?_)) ?_) (by rw [List.length_map]; omega)) q
    · obtain ⟨hk, rfl⟩ := natsV_get hx
      refine ev_op (y := .int (((i + l.getD k 0) % row.length : Nat) : Int)) (ev_var rfl) (ev_is (ev_op (ev_op (ev_var rfl) (ev_var rfl) rv_I0) (ev_cb (ea_cons (ev_var rfl) ea_nil) (rc_lenS (by omega))) (rv_I (show (0 : Int) < (row.length : Int) by omega))) (mod_nat _ _ _)) ?_
      exact rv_ixS (by omega) (at_sign (Nat.mod_lt _ (by omega)))
    · rw [given_all, natsV_len, range_getD l fun c => V.str ⟨#[row.cps.toList.getD ((i + c) % row.length) 0]⟩, List.map_map]
      rfl
theorem ok_ring_views (e : Ent K mg "ring_views" s_ring_views p_ring_views) (T : Top K mg CM CV CG fG CK fK a_SMALL_WIDTH a_SMALL_SEEN) (c1 : Cal P w K mg base CX0 4 "check_ring" p_check_ring spCheckRing) (c2 : Cal P w K mg base CX0 4 "seen" p_seen (spSeen0 K)) (c3 : Cal P w K mg base CX0 1 "ring_view" p_ring_view (spRingView K)) :
    Cal P w K mg base CX0 5 "ring_views" p_ring_views spRing := by
  obtain ⟨f, fd, F, m_, b_⟩ := e
  obtain ⟨f_check_ring, fd_check_ring, G_check_ring, m_check_ring, k_check_ring, b_check_ring⟩ := c1
  obtain ⟨f_seen, fd_seen, G_seen, m_seen, k_seen, b_seen⟩ := c2
  obtain ⟨f_ring_view, fd_ring_view, G_ring_view, m_ring_view, k_ring_view, b_ring_view⟩ := c3
  refine ⟨f, fd, F.ok sc_ring_views (fun vs H Q E h => ?_) (fun cdv A outer s H vs Q E hr h => ?_), m_, F.kp, b_⟩
  · obtain ⟨row, m, rfl, _⟩ := h
    rfl
  · obtain ⟨row, m, rfl, hr', h0, hm, q⟩ := h
    have h1 := row_len hr'
    have h2 := isMask_len hm
    have h3 := open_len m
    refine ⟨_, (pss_cons (ps_expr (pe_call G_check_ring (hr.mono (by decide)) (by rfl) m_check_ring k_check_ring b_check_ring .nil pass0 (pa_cons (pv 0) pa_nil)))
      (pss_cons (ps_set (i := 2) sc_ring_views.nd rfl (Or.inr rfl) (pe_call G_seen (hr.mono (by decide)) (by rfl) m_seen k_seen b_seen .nil pass0 (pa_cons (pv 1) pa_nil)))
      (pss_one (ps_ret (pe_lc (own := [("start", 3)]) (g := gName 3) (by rfl) sc_ring_views.nd (pi_range1 (by rfl) T.m_range (pa_cons (pe_callB call_len_str (by rfl) T.m_len (by decide +kernel) (pa_cons (pv 0) pa_nil)) pa_nil)) (blkOk_by (own := [("start", 3)]) (N := n_ring_views) (sc := (defScope s_ring_views)) (by decide +kernel)) (fun _ _ _ _ _ => pg_name (i := 3) sc_ring_views.nd rfl (Or.inl rfl)) (fun _ _ _ _ _ => pts_nil) (fun _ _ _ _ _ => (pe_call G_ring_view (hr.mono (by decide)) (by rfl) m_ring_view k_ring_view b_ring_view .nil pass0 (pa_cons (pv 0) (pa_cons (pv 2) (pa_cons (pv 3) pa_nil)))))))))), ?_⟩
    refine q_drop (v := .non) (ev_call (ea_cons (ev_var rfl) ea_nil) fun H1 e1 Q q E => ⟨row, rfl, hr', h0, q⟩) fun H1 e1 => ?_
    refine q_asgL (xs := natsV (openM m)) (el_call (ea_cons (ev_var rfl) ea_nil) fun H2 e2 Q q E => ⟨m, rfl, hm, q⟩) fun a H3 na e3 ha => ?_
    refine s_retL (xs := (ringM row m).map V.str) (el_is (el_lcR1 (n := (row.length : Int)) (fun _ => true) (fun i => V.str (ringV row (openM m) i)) (ea_cons (ev_cb (ea_cons (ev_var rfl) ea_nil) (rc_lenS (by omega))) ea_nil) (by omega) (fun _ => rfl) (fun _ _ _ _ => et_yes) (fun i H5 e5 hi _ => ?_)) ?_) fun p H5 np e5 h5 => q p H5 (fresh_back (e1.trans e3) np) ((e1.trans e3).trans e5) h5
    · exact ev_call (ea_cons (ev_var rfl) (ea_cons (ev_var rfl) (ea_cons (ev_var rfl) ea_nil))) fun H6 e6 Q q E => ⟨row, a, openM m, i, rfl, sq_of ((e5.trans e6) _ _ ha), by omega, by omega, by omega, q⟩
    · rw [given_all]
      unfold ringM
      rw [List.map_map]
      rfl
theorem ok_ring_tells (e : Ent K mg "ring_tells" s_ring_tells p_ring_tells) (T : Top K mg CM CV CG fG CK fK a_SMALL_WIDTH a_SMALL_SEEN) (c1 : Cal P w K mg base CX0 5 "ring_views" p_ring_views spRing) (c2 : Cal P w K mg base CX0 1 "all_unlike" p_all_unlike (spUnlike K)) : Cal P w K mg base CX0 6 "ring_tells" p_ring_tells spRingTells := by
  obtain ⟨f, fd, F, m_, b_⟩ := e
  obtain ⟨f_ring_views, fd_ring_views, G_ring_views, m_ring_views, k_ring_views, b_ring_views⟩ := c1
  obtain ⟨f_all_unlike, fd_all_unlike, G_all_unlike, m_all_unlike, k_all_unlike, b_all_unlike⟩ := c2
  refine ⟨f, fd, F.ok sc_ring_tells (fun vs H Q E h => ?_) (fun cdv A outer s H vs Q E hr h => ?_), m_, F.kp, b_⟩
  · obtain ⟨row, m, rfl, _⟩ := h
    rfl
  · obtain ⟨row, m, rfl, hr', h0, hm, q⟩ := h
    have l1 := row_len hr'
    refine ⟨_, (pss_one (ps_ret (pe_call G_all_unlike (hr.mono (by decide)) (by rfl) m_all_unlike k_all_unlike b_all_unlike .nil pass0 (pa_cons (pe_call G_ring_views (hr.mono (by decide)) (by rfl) m_ring_views k_ring_views b_ring_views .nil pass0 (pa_cons (pv 0) (pa_cons (pv 1) pa_nil))) pa_nil)))), ?_⟩
    exact s_ret (ev_unlikeN (xs := ringM row m) (el_call (ea_cons (ev_var rfl) (ea_cons (ev_var rfl) ea_nil)) fun H1 e1 Q q E => ⟨row, m, rfl, hr', h0, hm, q⟩) (by rw [ringM_len]; omega)) q
end
end K24
namespace K24
open PySem PySem.Spec PyProof.Rows L2 Evl Qt
/-- what is grouped: n things pf with the texts f -/
def prsL (pf : Nat → V) (f : Nat → Str) (n : Nat) : List (List V) := (List.range n).map fun i => [pf i, .str (f i)]
def spGrouped : Sp := fun vs H Q _ => ∃ (a : Addr) (n : Nat) (pf : Nat → V) (f : Nat → Str), vs = [.ref a] ∧ LTup H a (prsL pf f n) ∧ n ≤ 1000 ∧ RetT (groupsL f pf n) H Q
def spLeast : Sp := fun vs H Q _ => ∃ (a : Addr) (n : Nat) (pf : Nat → V) (f : Nat → Str), vs = [.ref a] ∧ LTup H a (prsL pf f n) ∧ n ≤ 1000 ∧ (groupsL f pf n = [] → RetV .non H Q) ∧
  ∀ x r, groupsL f pf n = x :: r → ∀ p H2, Ex H H2 → H2 p = some (.tup (x.take 2)) → Q (.ref p) H2
def groupsM (row m : Str) : List (List V) := groupsL (fun i => viewM row (openM m) i) (fun i => .int (i : Nat)) (row.length + 1 - m.length)
def spGroups : Sp := fun vs H Q _ => ∃ row m : Str, vs = [.str row, .str m] ∧ isRow row = true ∧ isMask m = true ∧ RetT (groupsM row m) H Q
def spAlike : Sp := fun vs H Q _ => ∃ row m : Str, vs = [.str row, .str m] ∧ isRow row = true ∧ isMask m = true ∧ (groupsM row m = [] → RetV .non H Q) ∧
  ∀ x r, groupsM row m = x :: r → ∀ p H2, Ex H H2 → H2 p = some (.tup (x.take 2)) → Q (.ref p) H2
theorem enum_prs {row m : Str} (hl : (viewsM row m).length = row.length + 1 - m.length) : enumL ((viewsM row m).map V.str) = prsL (fun i => .int (i : Nat)) (fun i => viewM row (openM m) i) (row.length + 1 - m.length) := by
  unfold enumL prsL
  rw [List.length_map, hl]
  refine List.map_congr_left fun i hi => ?_
  have hi := List.mem_range.mp hi
  have : ((viewsM row m).map V.str).getD i .non = .str (viewM row (openM m) i) := by
    unfold viewsM at hl ⊢
    rw [List.length_map] at hl
    rw [List.length_range] at hl
    rw [List.getD_eq_getElem?_getD, List.getElem?_map, List.getElem?_map, List.getElem?_range (by rw [hl]; exact hi)]
    rfl
  rw [this]
section
variable {P : Program} {w : World} {K : PySem.W.Frag} {mg : Str → Option Value} {base : Heap} {CM CV CG fG CK fK a_SMALL_WIDTH a_SMALL_SEEN : Addr}
theorem ok_grouped (e : Ent K mg "grouped" s_grouped p_grouped) (T : Top K mg CM CV CG fG CK fK a_SMALL_WIDTH a_SMALL_SEEN) : Cal P w K mg base CX0 1 "grouped" p_grouped spGrouped := by
  obtain ⟨fn, fd, F, m_, b_⟩ := e
  refine ⟨fn, fd, F.ok sc_grouped (fun vs H Q E h => ?_) (fun cdv A outer s H vs Q E hr h => ?_), m_, F.kp, b_⟩
  · obtain ⟨a, n, pf, f, rfl, _⟩ := h
    rfl
  · obtain ⟨a, n, pf, f, rfl, ⟨ts, ha, hp⟩, hn, q⟩ := h
    have tl : ts.length = n := by rw [pr_len hp]; unfold prsL; rw [List.length_map, List.length_range]
    refine ⟨_, (pss_cons (ps_set (i := 1) sc_grouped.nd rfl (Or.inl rfl) pe_dnewK)
      (pss_cons (ps_for PassesOwn.never rfl (pi_list (pv 0)) (pg_tup (by rfl) (pgs_cons (pg_name (i := 2) sc_grouped.nd rfl (Or.inl rfl)) (pgs_cons (pg_name (i := 3) sc_grouped.nd rfl (Or.inl rfl)) pgs_nil))) (pss_one (ps_expr (pe_bm PySem.F.plainAttrs_list PySem.F.slot_list_append PySem.F.type_list_append mt_append (pe_dsetd (pv 1) (pv 3) (pe_lst pa_nil) ⟨rfl, rfl, rfl, rfl⟩) (pa_cons (pv 2) pa_nil)))))
      (pss_one (ps_ret (pe_lock (pe_lc (own := [("same", 4)]) (g := gName 4) (by rfl) sc_grouped.nd (pi_values (pv 1)) (blkOk_by (own := [("same", 4)]) (N := n_grouped) (sc := (defScope s_grouped)) (by decide +kernel)) (fun _ _ _ _ _ => pg_name (i := 4) sc_grouped.nd rfl (Or.inl rfl)) (fun _ _ _ _ _ => pts_one (pt_cmpR op_gt (pe_callB (call_lenK K rfl) (by rfl) T.m_len (by decide +kernel) (pa_cons (pv 4) pa_nil)) pe_int (nomark _))) (fun _ _ _ _ _ => (pe_callTy (call_tuple_ofK K rfl) (by rfl) T.m_tuple (by decide +kernel) (pa_cons (pv 4) pa_nil))))))))), ?_⟩
    refine fun d nd => ?_
    have ad : a ≠ d := fun z => by rw [z, nd] at ha; cases ha
    have eD := Ex.new (o := .dK []) nd
    have aD := eD _ _ ha
    obtain ⟨B, hB⟩ : ∃ B, upd H d (.dK []) = B := ⟨_, rfl⟩
    have d1 : B d = some (.dK []) := by rw [← hB]; exact upd_same
    rw [hB] at eD aD ⊢
    refine q_forL (xs := ts.map V.ref) (ev_var rfl) (sq_of aD) (fun i σ' H' => ∃ gs, Gr f pf B d i H' gs ∧ ∃ x2 x3, σ' = [some (.ref a), some (.ref d), x2, x3, none])
      (fun H1 e1 => ⟨[], ⟨rfl, e1 _ _ d1, (fun g hg => absurd hg (by simp)), List.nodup_nil, (fun g hg => absurd hg (by simp)), fun b o _ h => e1 _ _ h⟩, _, _, rfl⟩) (fun i σ' H' _ hp => ?_) (fun i x σ' H' hx hq => ?_) (fun σ' Hx hq => ?_)
    · obtain ⟨gs, G, _⟩ := hp
      exact sq_of (G.ex a _ ad aD)
    · obtain ⟨gs, G, x2, x3, rfl⟩ := hq
      rw [List.getElem?_map] at hx
      cases ht : ts[i]? with
      | none => rw [ht] at hx; cases hx
      | some t =>
        rw [ht] at hx
        obtain rfl : V.ref t = x := Option.some.inj hx
        have hi : i < n := by rw [← tl]; exact (List.getElem?_eq_some_iff.mp ht).1
        have ht2 : (prsL pf f n)[i]? = some [pf i, .str (f i)] := by
          unfold prsL
          rw [List.getElem?_map, List.getElem?_range hi]
          rfl
        have hT : H t = some (.tup [pf i, .str (f i)]) := pr_at (R := fun t x => H t = some (HO.tup x)) hp ht ht2
        have td : t ≠ d := fun z => by rw [z, nd] at hT; cases hT
        have hT1 := G.ex t _ td (eD _ _ hT)
        have hlen : gs.length ≤ 1000 := by
          have z : gs.length = (firsts f i).length := by rw [← G.fs, List.length_map]
          have z2 := firsts_len f i
          omega
        refine ⟨t, _, rfl, st_of hT1, rfl, _, _, rfl, _, _, rfl, rfl, ?_⟩
        refine ⟨_, rfl, d, rfl, .inl ⟨_, .inl G.hd⟩, _, rfl, Nat.zero_le _, fun L nL => ?_⟩
        have G3 := G.grow (Ex.new (o := .lst []) nL)
        refine ⟨gs.map (entry f), .inr (f i), G3.hd, rfl, by rw [List.length_map, sizeLine_eq]; omega, fun v hv => ?_, fun hv => ?_⟩
        · obtain ⟨g, hg, eg, rfl⟩ := val_some hv
          have hl := G3.ls g hg
          refine ⟨.inl ⟨rfl, _, sq_of hl⟩, _, rfl, g.2, _, _, rfl, rfl, hl, ?_, ?_⟩
          · rw [List.length_map, sizeLine_eq]
            have := same_len f i g.1
            omega
          · exact ⟨gs, G3.hit hg eg, _, _, rfl⟩
        · have dL : d ≠ L := fun z => by rw [← z, G.hd] at nL; cases nL
          have hd2 := val_none hv
          rw [putK_new _ hv]
          refine ⟨.inl ⟨rfl, [], sq_of (by rw [upd_ne dL.symm, upd_same])⟩, _, rfl, L, [], _, rfl, rfl, by rw [upd_ne dL.symm, upd_same], by show 0 < sizeLine; decide, ?_⟩
          exact ⟨gs ++ [(i, L)], G.miss nL (by rw [d1]; simp) hd2, _, _, rfl⟩
    · obtain ⟨gs, G, x2, x3, rfl⟩ := hq
      rw [List.length_map, tl] at G
      refine ⟨d, _, G.hd, trivial, fun od => ?_⟩
      refine ⟨_, rfl, d, od, _, rfl, upd_same, fun D nD => ?_⟩
      have dD : D ≠ d := fun z => by rw [z, upd_same] at nD; cases nD
      rw [upd_ne dD] at nD
      have z2 : gs.length ≤ 1000 := by
        have z : gs.length = (firsts f n).length := by rw [← G.fs, List.length_map]
        have z4 := firsts_len f n
        omega
      refine lc_it (walk_values (kvs := gs.map (entry f)) (d := d) (o := od)) (fun k H' => H' d = some (.frz od (.dK (gs.map (entry f)))) ∧ (∀ b o, b ≠ d → Hx b = some o → H' b = some o) ∧
          ∃ ts : List Addr, H' D = some (.lst (ts.map V.ref)) ∧ Paired (fun t x => H' t = some (.tup x)) ts (longs ((gs.take k).map fun g => (sameP f n g.1).map pf)) ∧ ∀ t ∈ ts, t ≠ d)
        ⟨by rw [upd_ne dD.symm, upd_same], fun b o hb h => by
          have : b ≠ D := fun z => by rw [z, nD] at h; cases h
          rw [upd_ne this, upd_ne hb]; exact h, [], upd_same, .nil, fun t ht => absurd ht (by simp)⟩ (fun k H' _ p => p.1) (fun k x H2 H3 hk p y => ?_) (fun H' p => ?_)
      · obtain ⟨rfl, key, hkey⟩ := y
        obtain ⟨p1, p2, us, p3, p4, p5⟩ := p
        rw [List.getElem?_map] at hkey
        cases hg : gs[k]? with
        | none => rw [hg] at hkey; cases hkey
        | some g =>
          rw [hg] at hkey
          obtain rfl : V.ref g.2 = x := by
            have z := Option.some.inj hkey
            injection z
          have mg_ : g ∈ gs := List.mem_of_getElem? hg
          have gd : g.2 ≠ d := fun z => by
            have := G.ls g mg_
            rw [z, G.hd] at this
            cases this
          have hl := p2 g.2 _ gd (G.ls g mg_)
          have take1 : gs.take (k + 1) = gs.take k ++ [g] := by rw [List.take_add_one, hg]; rfl
          refine ⟨rfl, ?_⟩
          refine ⟨_, rfl, .ref g.2, _, rfl, .inl ⟨_, sq_of hl, rfl⟩, _, _, rfl, rfl, _, rfl, ite2 (fun hc => ?_) (fun hc => ?_)⟩
          · have hc' : 1 < ((sameP f n g.1).map pf).length := by
              have := of_decide_eq_true hc
              omega
            refine ⟨_, rfl, g.2, _, rfl, .inl ⟨sq_of hl, fun t nt => ⟨_, (by rw [upd_ne (ne_of_none p3 nt)]; exact p3), ?_, ?_⟩⟩⟩
            · have z : us.length ≤ gs.length := by
                rw [Paired.length p4]
                refine Nat.le_trans (List.length_filter_le _ _) ?_
                rw [List.length_map, List.length_take]
                omega
              rw [List.length_map, sizeLine_eq]
              omega
            · have tD : t ≠ D := fun z => by rw [z, p3] at nt; cases nt
              have td : t ≠ d := fun z => by rw [z, p1] at nt; cases nt
              refine ⟨by rw [upd_ne dD.symm, upd_ne td.symm]; exact p1, fun b o hb h => ?_, us ++ [t], by rw [upd_same, List.map_append]; rfl, ?_, fun t' ht' => ?_⟩
              · have h1 : b ≠ D := fun z => by rw [z, nD] at h; cases h
                have h2 := p2 b o hb h
                have h3 : b ≠ t := fun z => by rw [z, nt] at h2; cases h2
                rw [upd_ne h1, upd_ne h3]
                exact h2
              · rw [take1, List.map_append]
                unfold longs
                rw [List.filter_append, List.map_cons, List.map_nil, List.filter_cons_of_pos (by exact decide_eq_true hc')]
                refine pr_put (pr_imp p4 fun t' x' ht' h => ?_) (by rw [upd_ne tD, upd_same])
                have a1 : t' ≠ D := fun z => by rw [z, p3] at h; cases h
                have a2 : t' ≠ t := fun z => by rw [z, nt] at h; cases h
                rw [upd_ne a1, upd_ne a2]
                exact h
              · rcases List.mem_append.mp ht' with z | z
                · exact p5 t' z
                · rw [List.mem_singleton.mp z]; exact td
          · have hc' : ¬ 1 < ((sameP f n g.1).map pf).length := fun z => hc (decide_eq_true (by omega))
            refine ⟨p1, p2, us, p3, ?_, p5⟩
            rw [take1, List.map_append]
            unfold longs
            rw [List.filter_append, List.map_cons, List.map_nil, List.filter_cons_of_neg (by rw [decide_eq_false hc']; exact Bool.false_ne_true)]
            simpa [longs] using p4
      · obtain ⟨p1, p2, us, p3, p4, p5⟩ := p
        have all : ∀ b o, H b = some o → b ≠ d ∧ Hx b = some o := fun b o h => by
          have bd : b ≠ d := fun z => by rw [z, nd] at h; cases h
          exact ⟨bd, G.ex b o bd (eD b o h)⟩
        refine ⟨p1, q D _ ?_ (fun b o h => ?_) ⟨us, by rw [upd_ne dD]; exact p3, ?_⟩⟩
        · cases h : H D with
          | none => rfl
          | some o =>
            have := (all D o h).2
            rw [nD] at this
            cases this
        · rw [upd_ne (all b o h).1]
          exact p2 b o (all b o h).1 (all b o h).2
        · rw [List.length_map, List.take_of_length_le (Nat.le_refl _)] at p4
          have e2 : (gs.map fun g => (sameP f n g.1).map pf) = (firsts f n).map fun a => (sameP f n a).map pf := by
            rw [← G.fs, List.map_map]
            rfl
          rw [e2] at p4
          exact pr_imp p4 fun t x ht h => by rw [upd_ne (p5 t ht)]; exact h
theorem ok_least_pair (e : Ent K mg "least_pair" s_least_pair p_least_pair) (T : Top K mg CM CV CG fG CK fK a_SMALL_WIDTH a_SMALL_SEEN) (c1 : Cal P w K mg base CX0 1 "grouped" p_grouped spGrouped) : Cal P w K mg base CX0 2 "least_pair" p_least_pair spLeast := by
  obtain ⟨fn, fd, F, m_, b_⟩ := e
  obtain ⟨f_grouped, fd_grouped, G_grouped, m_grouped, k_grouped, b_grouped⟩ := c1
  refine ⟨fn, fd, F.ok sc_least_pair (fun vs H Q E h => ?_) (fun cdv A outer s H vs Q E hr h => ?_), m_, F.kp, b_⟩
  · obtain ⟨a, n, pf, f, rfl, _⟩ := h
    rfl
  · obtain ⟨a, n, pf, f, rfl, ha, hn, q0, q1⟩ := h
    refine ⟨_, (pss_cons (ps_set (i := 1) sc_least_pair.nd rfl (Or.inl rfl) (pe_call G_grouped (hr.mono (by decide)) (by rfl) m_grouped k_grouped b_grouped .nil pass0 (pa_cons (pv 0) pa_nil)))
      (pss_one (ps_ret (pe_ifExp (pt_truth (pv 1) (by intro _; rfl)) (pe_slice sl_tupW (pe_ix ix_list (pv 1) pe_int (fun _ _ => rfl)) po_none (po_some pe_int)) pe_non)))), ?_⟩
    refine ⟨_, rfl, a, n, pf, f, rfl, ha, hn, fun p H1 np e1 ht => ?_⟩
    obtain ⟨ts, hp, pr⟩ := ht
    have hl := pr_len pr
    cases hg : groupsL f pf n with
    | nil =>
      rw [hg] at hl pr
      obtain rfl : ts = [] := List.eq_nil_of_length_eq_zero hl
      exact ⟨_, rfl, false, .inl ⟨[], sq_of hp, rfl⟩, iteF (q0 hg H1 e1)⟩
    | cons x r =>
      have hx : 1 < x.length := longs_len (xs := (firsts f n).map fun a => (sameP f n a).map pf) (by
        have : x ∈ groupsL f pf n := by rw [hg]; exact List.mem_cons_self
        exact this)
      rw [hg] at hl pr
      cases pr with
      | cons h1 h2 =>
        rename_i t ts'
        refine ⟨_, rfl, true, .inl ⟨_, sq_of hp, rfl⟩, iteT ?_⟩
        refine ⟨_, rfl, p, _, 0, .ref t, rfl, rfl, sq_of hp, atI_nat (j := 0) rfl, 2, rfl, t, x, rfl, st_of h1, fun _ h => ?_, fun _ u nu => ?_⟩
        · have e2 : HT.sIx x.length x.length (some ((2 : Nat) : Int)) = x.length := h
          rw [HT.sIx_nat] at e2
          refine q1 x r hg t H1 e1 ?_
          rw [List.take_of_length_le (by omega)]
          exact h1
        · refine q1 x r hg u _ (e1.trans (Ex.new nu)) ?_
          rw [upd_same]
          have e3 : cutV x none (some ((2 : Nat) : Int)) = x.take 2 := by
            unfold cutV
            rw [HT.sIx_none, HT.sIx_nat, List.drop_zero, Nat.sub_zero, Nat.min_eq_left (by omega)]
          rw [← e3]
          rfl
theorem ok_groups (e : Ent K mg "groups" s_groups p_groups) (T : Top K mg CM CV CG fG CK fK a_SMALL_WIDTH a_SMALL_SEEN) (c1 : Cal P w K mg base CX0 5 "views" p_views spViews) (c2 : Cal P w K mg base CX0 1 "grouped" p_grouped spGrouped) : Cal P w K mg base CX0 6 "groups" p_groups spGroups := by
  obtain ⟨fn, fd, F, m_, b_⟩ := e
  obtain ⟨f_views, fd_views, G_views, m_views, k_views, b_views⟩ := c1
  obtain ⟨f_grouped, fd_grouped, G_grouped, m_grouped, k_grouped, b_grouped⟩ := c2
  refine ⟨fn, fd, F.ok sc_groups (fun vs H Q E h => ?_) (fun cdv A outer s H vs Q E hr h => ?_), m_, F.kp, b_⟩
  · obtain ⟨row, m, rfl, _⟩ := h
    rfl
  · obtain ⟨row, m, rfl, hr', hm, q⟩ := h
    have l1 := row_len hr'
    refine ⟨_, (pss_one (ps_ret (pe_call G_grouped (hr.mono (by decide)) (by rfl) m_grouped k_grouped b_grouped .nil pass0 (pa_cons (pe_listEnum rfl (by rfl) T.m_list (by rfl) T.m_enumerate (pe_call G_views (hr.mono (by decide)) (by rfl) m_views k_views b_views .nil pass0 (pa_cons (pv 0) (pa_cons (pv 1) pa_nil)))) pa_nil)))), ?_⟩
    refine ⟨_, rfl, _, rfl, row, m, rfl, hr', hm, fun l H0 nl e0 hl => ⟨l, _, rfl, sq_of hl, fun p H1 np e1' hp => ?_⟩⟩
    have e1 := e0.trans e1'
    rw [enum_prs (viewsM_len row m)] at hp
    exact ⟨p, _, _, _, rfl, hp, by omega, fun p2 H2 np2 e2 h2 => q p2 H2 (fresh_back e1 np2) (e1.trans e2) h2⟩
theorem ok_alike (e : Ent K mg "alike" s_alike p_alike) (T : Top K mg CM CV CG fG CK fK a_SMALL_WIDTH a_SMALL_SEEN) (c1 : Cal P w K mg base CX0 5 "views" p_views spViews) (c2 : Cal P w K mg base CX0 2 "least_pair" p_least_pair spLeast) : Cal P w K mg base CX0 6 "alike" p_alike spAlike := by
  obtain ⟨fn, fd, F, m_, b_⟩ := e
  obtain ⟨f_views, fd_views, G_views, m_views, k_views, b_views⟩ := c1
  obtain ⟨f_least_pair, fd_least_pair, G_least_pair, m_least_pair, k_least_pair, b_least_pair⟩ := c2
  refine ⟨fn, fd, F.ok sc_alike (fun vs H Q E h => ?_) (fun cdv A outer s H vs Q E hr h => ?_), m_, F.kp, b_⟩
  · obtain ⟨row, m, rfl, _⟩ := h
    rfl
  · obtain ⟨row, m, rfl, hr', hm, q0, q1⟩ := h
    have l1 := row_len hr'
    refine ⟨_, (pss_one (ps_ret (pe_call G_least_pair (hr.mono (by decide)) (by rfl) m_least_pair k_least_pair b_least_pair .nil pass0 (pa_cons (pe_listEnum rfl (by rfl) T.m_list (by rfl) T.m_enumerate (pe_call G_views (hr.mono (by decide)) (by rfl) m_views k_views b_views .nil pass0 (pa_cons (pv 0) (pa_cons (pv 1) pa_nil)))) pa_nil)))), ?_⟩
    refine ⟨_, rfl, _, rfl, row, m, rfl, hr', hm, fun l H0 nl e0 hl => ⟨l, _, rfl, sq_of hl, fun p H1 np e1' hp => ?_⟩⟩
    have e1 := e0.trans e1'
    rw [enum_prs (viewsM_len row m)] at hp
    exact ⟨p, _, _, _, rfl, hp, by omega, fun h0 H2 e2 => q0 h0 H2 (e1.trans e2), fun x r hx p2 H2 e2 h2 => q1 x r hx p2 H2 (e1.trans e2) h2⟩
end
end K24
namespace K24
open PySem PySem.Spec PyProof.Rows L2 Evl Qt PySem.W
/-! looks in a row -/
def okAt (N : Nat) (offs : List Int) (f : Nat) : Bool := offs.all fun o => decide (0 ≤ (f : Int) + o) && decide ((f : Int) + o < (N : Int))
def firstsM (N : Nat) (offs : List Int) : List Nat := (List.range N).filter (okAt N offs)
def runM (F : List Str) (offs : List Int) (f : Nat) : List Str := offs.map fun o => F.getD ((f : Int) + o).toNat PySem.Str.empty
def runsM (F : List Str) (offs : List Int) : List (List Str) := (firstsM F.length offs).map (runM F offs)
def offsM (s : Int) (many : Nat) : List Int := (List.range many).map fun a : Nat => (a : Int) * s
def goodRuns (F : List Str) (s : Int) (many : Nat) : Bool := !(runsM F (offsM s many)).isEmpty && decide (runsM F (offsM s many)).Nodup
def neededM (F : List Str) (s : Int) : Option Nat := ((List.range F.length).map (· + 1)).find? (goodRuns F s)
def optV : Option Nat → V
  | none => .non
  | some n => .int (n : Int)
theorem firsts_len (N : Nat) (offs : List Int) : (firstsM N offs).length ≤ N := by
  have h := List.length_filter_le (okAt N offs) (List.range N)
  rw [List.length_range] at h
  exact h
theorem runs_len (F : List Str) (offs : List Int) : (runsM F offs).length ≤ F.length := by
  unfold runsM
  rw [List.length_map]
  exact firsts_len _ _
theorem firsts_ok {N : Nat} {offs : List Int} {f : Nat} (h : f ∈ firstsM N offs) : f < N ∧ ∀ o ∈ offs, 0 ≤ (f : Int) + o ∧ (f : Int) + o < (N : Int) := by
  obtain ⟨h1, h2⟩ := List.mem_filter.mp h
  refine ⟨List.mem_range.mp h1, fun o ho => ?_⟩
  unfold okAt at h2
  rw [List.all_eq_true] at h2
  have := h2 o ho
  simpa using this
abbrev intsV (ns : List Int) : List V := ns.map V.int
def spFirsts (K : PySem.W.Frag) : Sp := fun vs H Q _ => ∃ (o : Addr) (N : Nat) (offs : List Int), vs = [.int (N : Int), .ref o] ∧ SqL K H o (intsV offs) ∧ N ≤ 1000 ∧ offs.length ≤ 1000 ∧ RetL ((firstsM N offs).map fun f : Nat => V.int (f : Int)) H Q
def spRuns (K : PySem.W.Frag) : Sp := fun vs H Q _ => ∃ (a o : Addr) (F : List Str) (offs : List Int), vs = [.ref a, .ref o] ∧ SqL K H a (F.map V.str) ∧ SqL K H o (intsV offs) ∧ F.length ≤ 60 ∧ offs.length ≤ 100 ∧
  ∀ p H', H p = none → Ex H H' → LTup H' p ((runsM F offs).map fun k => k.map V.str) → Q (.ref p) H'
def spUnlikeT : Sp := fun vs H Q _ => ∃ (a : Addr) (kss : List (List Str)), vs = [.ref a] ∧ LTup H a (kss.map fun k => k.map V.str) ∧ kss.length < 64 ∧ RetV (.bl (decide kss.Nodup)) H Q
def spUnlikeA (K : PySem.W.Frag) : Sp := fun vs H Q E => spUnlike K vs H Q E ∨ spUnlikeT vs H Q E
def spNeeded (K : PySem.W.Frag) : Sp := fun vs H Q _ => ∃ (a : Addr) (F : List Str) (s : Int), vs = [.ref a, .int s] ∧ SqL K H a (F.map V.str) ∧ F.length ≤ 60 ∧ 1 ≤ s ∧ s ≤ 12 ∧ RetV (optV (neededM F s)) H Q
def spStepsN : Sp := fun vs H Q _ => ∃ row m : Str, vs = [.str row, .str m] ∧ isRow row = true ∧ isMask m = true ∧ RetV (optV (neededM (viewsM row m) 1)) H Q
section
variable {P : Program} {w : World} {K : PySem.W.Frag} {mg : Str → Option Value} {base : Heap} {CM CV CG fG CK fK a_SMALL_WIDTH a_SMALL_SEEN : Addr}
theorem ok_firsts (e : Ent K mg "first_places" s_first_places p_first_places) (T : Top K mg CM CV CG fG CK fK a_SMALL_WIDTH a_SMALL_SEEN) : Cal P w K mg base CX0 1 "first_places" p_first_places (spFirsts K) := by
  obtain ⟨f, fd, F, m_, b_⟩ := e
  refine ⟨f, fd, F.ok sc_first_places (fun vs H Q E h => ?_) (fun cdv A outer s H vs Q E hr h => ?_), m_, F.kp, b_⟩
  · obtain ⟨o, N, offs, rfl, _⟩ := h
    rfl
  · obtain ⟨o, N, offs, rfl, ho, hN, hl, q⟩ := h
    refine ⟨_, (pss_one (ps_ret (pe_lc (own := [("first", 2)]) (g := gName 2) (by rfl) sc_first_places.nd (pi_range1 (by rfl) T.m_range (pa_cons (pv 0) pa_nil)) (blkOk_by (own := [("first", 2)]) (N := n_first_places) (sc := (defScope s_first_places)) (by decide +kernel)) (fun _ _ _ _ _ => pg_name (i := 2) sc_first_places.nd rfl (Or.inr rfl)) (fun _ _ _ _ _ => pts_one (pt_val (pe_callB (cr_allK K rfl rfl) (by rfl) T.m_all (by decide +kernel) (pa_cons (by exact (pe_lc (own := [("offset", 3)]) (g := gName 3) (by rfl) sc_first_places.nd ((pi_listK K rfl) (pv 1)) (blkOk_by (own := [("offset", 3)]) (N := n_first_places) (sc := (relS _ (defScope s_first_places))) (by decide +kernel)) (fun _ _ _ _ _ => pg_name (i := 3) sc_first_places.nd rfl (Or.inl rfl)) (fun _ _ _ _ _ => pts_nil) (fun _ _ _ _ _ => (pe_chain op_le op_lt pe_int (pe_op op_add (pv 2) (pv 3)) (pv 0))))) pa_nil)))) (fun _ _ _ _ _ => (pv 2))))), ?_⟩
    refine s_retL (xs := (firstsM N offs).map fun f : Nat => V.int (f : Int)) (el_is (el_lcR1 (n := (N : Int)) (okAt N offs) (fun f => .int (f : Int)) (ea_cons (ev_var rfl) ea_nil) (by omega) (fun _ => rfl) (fun f H1 e1 hf => ?_) (fun f H1 e1 hf _ => ev_var rfl)) ?_) q
    · have oat : ∀ {i : Nat} {x : V}, (intsV offs)[i]? = some x → x = .int (offs.getD i 0) ∧ i < offs.length := fun {i x} hx => by
        have hi : i < offs.length := by
          have := (List.getElem?_eq_some_iff.mp hx).1
          rw [List.length_map] at this
          exact this
        rw [List.getElem?_map, List.getElem?_eq_getElem hi] at hx
        rw [List.getD_eq_getElem?_getD, List.getElem?_eq_getElem hi]
        exact ⟨(Option.some.inj hx).symm, hi⟩
      refine et_B (ev_is (ev_all (bs := offs.map fun o => decide (0 ≤ (f : Int) + o) && decide ((f : Int) + o < (N : Int))) (el_is (el_lcL (K := K) (xs := intsV offs) (fun _ => true) (fun i => .bl (decide (0 ≤ (f : Int) + offs.getD i 0) && decide ((f : Int) + offs.getD i 0 < (N : Int)))) (ev_var rfl) (ex_l e1 ho) (by rw [List.length_map]; omega) (fun _ => rfl) (fun _ _ _ _ _ => et_yes) (fun i x H2 e2 hx _ => ?_)) ?_)) ?_)
      · obtain ⟨rfl, _⟩ := oat hx
        exact ev_chain ev_c (ev_op (ev_var rfl) (ev_var rfl) rv_I0) rv_I0 (ev_var rfl) fun _ => rv_I0
      · rw [given_all, List.length_map, List.map_map]
        exact range_map_getD offs 0 fun o => V.bl (decide (0 ≤ (f : Int) + o) && decide ((f : Int) + o < (N : Int)))
      · unfold okAt
        rw [List.all_map]
        rfl
    · rw [Int.toNat_natCast]
      rfl
theorem ok_runs (e : Ent K mg "runs_at" s_runs_at p_runs_at) (T : Top K mg CM CV CG fG CK fK a_SMALL_WIDTH a_SMALL_SEEN) (c1 : Cal P w K mg base CX0 1 "first_places" p_first_places (spFirsts K)) : Cal P w K mg base CX0 2 "runs_at" p_runs_at (spRuns K) := by
  obtain ⟨f, fd, F, m_, b_⟩ := e
  obtain ⟨f_first_places, fd_first_places, G_first_places, m_first_places, k_first_places, b_first_places⟩ := c1
  refine ⟨f, fd, F.ok sc_runs_at (fun vs H Q E h => ?_) (fun cdv A outer s H vs Q E hr h => ?_), m_, F.kp, b_⟩
  · obtain ⟨a, o, F, offs, rfl, _⟩ := h
    rfl
  · obtain ⟨a, o, F, offs, rfl, ha, ho, hN, hl, q⟩ := h
    refine ⟨_, (pss_one (ps_ret (pe_lc (own := [("first", 2)]) (g := gName 2) (by rfl) sc_runs_at.nd (pi_list (pe_call G_first_places (hr.mono (by decide)) (by rfl) m_first_places k_first_places b_first_places .nil pass0 (pa_cons (pe_callB call_len (by rfl) T.m_len (by decide +kernel) (pa_cons (pv 0) pa_nil)) (pa_cons (pv 1) pa_nil)))) (blkOk_by (own := [("first", 2)]) (N := n_runs_at) (sc := (defScope s_runs_at)) (by decide +kernel)) (fun _ _ _ _ _ => pg_name (i := 2) sc_runs_at.nd rfl (Or.inr rfl)) (fun _ _ _ _ _ => pts_nil) (fun _ _ _ _ _ => (pe_callTy (call_tuple_ofK K rfl) (by rfl) T.m_tuple (by decide +kernel) (pa_cons (by exact (pe_lc (own := [("offset", 3)]) (g := gName 3) (by rfl) sc_runs_at.nd ((pi_listK K rfl) (pv 1)) (blkOk_by (own := [("offset", 3)]) (N := n_runs_at) (sc := (relS _ (defScope s_runs_at))) (by decide +kernel)) (fun _ _ _ _ _ => pg_name (i := 3) sc_runs_at.nd rfl (Or.inl rfl)) (fun _ _ _ _ _ => pts_nil) (fun _ _ _ _ _ => (pe_ix (ix_listK K rfl) (pv 0) (pe_op op_add (pv 2) (pv 3)) (fun _ _ => rfl))))) pa_nil)))))), ?_⟩
    have hfl := firsts_len F.length offs
    have mat : ∀ {i : Nat} {x : V}, ((firstsM F.length offs).map fun f : Nat => V.int (f : Int))[i]? = some x → ∃ k, (firstsM F.length offs)[i]? = some k ∧ x = .int (k : Int) ∧ k ∈ firstsM F.length offs := fun {i x} hx => by
      rw [List.getElem?_map] at hx
      cases hk : (firstsM F.length offs)[i]? with
      | none => rw [hk] at hx; cases hx
      | some k =>
        rw [hk] at hx
        exact ⟨k, rfl, (Option.some.inj hx).symm, List.mem_of_getElem? hk⟩
    have body := eg_P (ys := fun i => (runM F offs ((firstsM F.length offs).getD i 0)).map V.str) (ep_lcN (K := K) (σ := start n_runs_at [.ref a, .ref o]) (H := H) (tl := tCall (spFirsts K) [] E0 (tCons (tCB (fun xs H Q => ∃ x n, xs = [x] ∧ LenV K x H n ∧ Q (.int (n : Int)) H) (tCons (tVar 0) tNil)) (tCons (tVar 1) tNil)))
      (tt := tYes) (te := tCB (fun xs H Q => ∃ p ys, xs = [.ref p] ∧ ((SqL K H p ys ∧ ∀ l, H l = none → Q (.ref l) (upd H l (.tup ys))) ∨ (SqT K H p ys ∧ Q (.ref p) H))) (tCons (tLc (iList K (tVar 1)) (gName 3) tYes (tOp (rIxL K) (tVar 0) (tOp (rI0 fun i j => V.int (i + j)) (tVar 2) (tVar 3))) [3]) tNil))
      (j := 2) (vs := [2]) (xs := (firstsM F.length offs).map fun f : Nat => V.int (f : Int)) (fun _ => true) (repT fun i => (runM F offs ((firstsM F.length offs).getD i 0)).map V.str) (repT_mono _)
      (el_call (vs := [.int (F.length : Int), .ref o]) (ea_cons (ev_is (ev_cb (ea_cons (ev_var rfl) ea_nil) (rc_lenL ha)) (by rw [List.length_map])) (ea_cons (ev_var rfl) ea_nil)) fun H1 e1 Q q E => ⟨o, F.length, offs, rfl, ex_l e1 ho, by omega, by omega, q⟩) (by rw [List.length_map]; omega) (fun _ => rfl) (fun _ _ _ _ _ => et_yes) (fun i x H1 e1 hx _ => ?_))
    · refine s_retG (xss := (runsM F offs).map fun k => k.map V.str) (eg_is body ?_) q
      unfold gvn
      rw [List.filter_eq_self.mpr (fun _ _ => rfl), List.length_map]
      unfold runsM
      rw [List.map_map]
      exact range_map_getD (firstsM F.length offs) 0 fun f => (runM F offs f).map V.str
    · obtain ⟨k, hk, rfl, hkm⟩ := mat hx
      obtain ⟨hk1, hk2⟩ := firsts_ok hkm
      have hgk : (firstsM F.length offs).getD i 0 = k := by rw [List.getD_eq_getElem?_getD, hk]; rfl
      refine er_T (eu_tupOf (el_is (el_lcL (K := K) (xs := intsV offs) (fun _ => true) (fun l => .str (F.getD ((k : Int) + offs.getD l 0).toNat PySem.Str.empty)) (ev_var rfl) (ex_l e1 ho) (by rw [List.length_map]; omega) (fun _ => rfl) (fun _ _ _ _ _ => et_yes) (fun l x H2 e2 hx _ => ?_)) ?_))
      · have hi : l < offs.length := by
          have := (List.getElem?_eq_some_iff.mp hx).1
          rw [List.length_map] at this
          exact this
        have hx2 : x = .int (offs.getD l 0) := by
          rw [List.getElem?_map, List.getElem?_eq_getElem hi] at hx
          rw [List.getD_eq_getElem?_getD, List.getElem?_eq_getElem hi]
          exact (Option.some.inj hx).symm
        subst hx2
        have hom : offs.getD l 0 ∈ offs := by
          rw [List.getD_eq_getElem?_getD, List.getElem?_eq_getElem hi]
          exact List.getElem_mem hi
        obtain ⟨b1, b2⟩ := hk2 _ hom
        refine ev_op (ev_var rfl) (ev_op (ev_var rfl) (ev_var rfl) rv_I0) (rv_ixL (ex_l (e1.trans e2) ha) ?_)
        obtain ⟨n, hn⟩ := Int.eq_ofNat_of_zero_le b1
        rw [hn]
        have hn2 : n < F.length := by omega
        refine atI_nat ?_
        rw [List.getElem?_map, List.getElem?_eq_getElem hn2, Int.toNat_natCast, List.getD_eq_getElem?_getD, List.getElem?_eq_getElem hn2]
        rfl
      · rw [given_all, List.length_map, hgk]
        unfold runM
        rw [List.map_map]
        exact range_map_getD offs 0 fun o => V.str (F.getD ((k : Int) + o).toNat PySem.Str.empty)
theorem ok_unlikeA (e : Ent K mg "all_unlike" s_all_unlike p_all_unlike) (T : Top K mg CM CV CG fG CK fK a_SMALL_WIDTH a_SMALL_SEEN) : Cal P w K mg base CX0 1 "all_unlike" p_all_unlike (spUnlikeA K) := by
  obtain ⟨f, fd, F, m_, b_⟩ := e
  refine ⟨f, fd, F.ok sc_all_unlike (fun vs H Q E h => ?_) (fun cdv A outer s H vs Q E hr h => ?_), m_, F.kp, b_⟩
  · rcases h with ⟨a, xs, rfl, _⟩ | ⟨a, kss, rfl, _⟩ <;> rfl
  · refine ⟨_, (pss_one (ps_ret (pe_cmpR op_eq (pe_lenSetA rfl hr.units (by rfl) T.m_len (by rfl) T.m_set (pv 0)) (pe_callB call_len (by rfl) T.m_len (by decide +kernel) (pa_cons (pv 0) pa_nil)) (nomark _)))), ?_⟩
    rcases h with ⟨a, xs, rfl, ha, hl, q⟩ | ⟨a, kss, rfl, ha, hl, q⟩
    · exact s_ret (ev_distinctB (ev_var rfl) (ev_var rfl) ha hl) q
    · exact s_ret (ev_distinctA (ev_var rfl) (ev_var rfl) ha hl) q
theorem unlikeS (c : Cal P w K mg base CX0 1 "all_unlike" p_all_unlike (spUnlikeA K)) : Cal P w K mg base CX0 1 "all_unlike" p_all_unlike (spUnlike K) := c.imp fun _ _ _ _ h => .inl h
theorem unlikeT (c : Cal P w K mg base CX0 1 "all_unlike" p_all_unlike (spUnlikeA K)) : Cal P w K mg base CX0 1 "all_unlike" p_all_unlike spUnlikeT := c.imp fun _ _ _ _ h => .inr h
theorem ok_needed (e : Ent K mg "looks_needed" s_looks_needed p_looks_needed) (T : Top K mg CM CV CG fG CK fK a_SMALL_WIDTH a_SMALL_SEEN) (c1 : Cal P w K mg base CX0 2 "runs_at" p_runs_at (spRuns K)) (c2 : Cal P w K mg base CX0 1 "all_unlike" p_all_unlike spUnlikeT) : Cal P w K mg base CX0 3 "looks_needed" p_looks_needed (spNeeded K) := by
  obtain ⟨f, fd, F, m_, b_⟩ := e
  obtain ⟨f_runs_at, fd_runs_at, G_runs_at, m_runs_at, k_runs_at, b_runs_at⟩ := c1
  obtain ⟨f_all_unlike, fd_all_unlike, G_all_unlike, m_all_unlike, k_all_unlike, b_all_unlike⟩ := c2
  refine ⟨f, fd, F.ok sc_looks_needed (fun vs H Q E h => ?_) (fun cdv A outer s H vs Q E hr h => ?_), m_, F.kp, b_⟩
  · obtain ⟨a, F, st, rfl, _⟩ := h
    rfl
  · obtain ⟨a, F, st, rfl, ha, hF, s1, s12, q⟩ := h
    refine ⟨_, (pss_cons (ps_for PassesOwn.never rfl (pi_range2 (by rfl) T.m_range (pa_cons pe_int (pa_cons (pe_op op_add (pe_callB call_len (by rfl) T.m_len (by decide +kernel) (pa_cons (pv 0) pa_nil)) pe_int) pa_nil))) (pg_name (i := 2) sc_looks_needed.nd rfl (Or.inl rfl)) (pss_cons (ps_set (i := 3) sc_looks_needed.nd rfl (Or.inl rfl) (pe_call G_runs_at (hr.mono (by decide)) (by rfl) m_runs_at k_runs_at b_runs_at .nil pass0 (pa_cons (pv 0) (pa_cons (pe_lc (own := [("at", 4)]) (g := gName 4) (by rfl) sc_looks_needed.nd (pi_range1 (by rfl) T.m_range (pa_cons (pv 2) pa_nil)) (blkOk_by (own := [("at", 4)]) (N := n_looks_needed) (sc := (defScope s_looks_needed)) (by decide +kernel)) (fun _ _ _ _ _ => pg_name (i := 4) sc_looks_needed.nd rfl (Or.inl rfl)) (fun _ _ _ _ _ => pts_nil) (fun _ _ _ _ _ => (pe_op op_mul (pv 4) (pv 1)))) pa_nil))))
      (pss_one (ps_if (PW.pt (pw_and (pt_truth (pv 3) (by intro _; rfl)) (pw_and1 (pt_val (pe_call G_all_unlike (hr.mono (by decide)) (by rfl) m_all_unlike k_all_unlike b_all_unlike .nil pass0 (pa_cons (pv 3) pa_nil)))))) (pss_one (ps_ret (pv 2))) pss_nil))))
      (pss_one (ps_ret pe_non))), ?_⟩
    refine q_forR2 (j := 2) (lo := 1) (n := (F.length : Int) + 1) (ea_cons ev_c (ea_cons (ev_op (ev_is (ev_cb (ea_cons (ev_var rfl) ea_nil) (rc_lenL ha)) (by rw [List.length_map])) ev_c rv_I0) ea_nil)) (by omega)
      (fun i σ' H' => Ex H H' ∧ (∀ k, k < i → goodRuns F st (k + 1) = false) ∧ ∃ x2 x3 x4, σ' = [some (.ref a), some (.int st), x2, x3, x4]) (fun H1 e1 => ⟨e1, fun k hk => absurd hk (Nat.not_lt_zero k), _, _, _, rfl⟩) (fun i σ' H1 hi hp => ?_) (fun σ' H1 hp => ?_)
    · obtain ⟨e1, hno, x2, x3, x4, rfl⟩ := hp
      have hi : i < F.length := by omega
      have e1i : (1 : Int) + (i : Int) = ((i + 1 : Nat) : Int) := by omega
      rw [e1i]
      -- the looks, so many in a row
      have offs : EvL (tLc (iRng1 (tCons (tVar 2) tNil)) (gName 4) tYes (tOp (rI CMul fun i j => V.int (i * j)) (tVar 4) (tVar 1)) [4]) [some (.ref a), some (.int st), some (.int ((i + 1 : Nat) : Int)), x3, x4] H1 (intsV (offsM st (i + 1))) :=
        el_is (el_lcR1 (n := ((i + 1 : Nat) : Int)) (fun _ => true) (fun k => .int ((k : Int) * st)) (ea_cons (ev_var rfl) ea_nil) (by omega) (fun _ => rfl) (fun _ _ _ _ => et_yes) (fun k H2 e2 hk _ => ev_op (ev_var rfl) (ev_var rfl) (rv_I (.inr ⟨by omega, by omega⟩)))) (by
          rw [given_all, Int.toNat_natCast]
          unfold offsM intsV
          rw [List.map_map]
          rfl)
      refine q_asgG (xss := (runsM F (offsM st (i + 1))).map fun k => k.map V.str) (eg_call1L (ev_var rfl) offs fun o G e ho Q E q => ⟨a, o, F, offsM st (i + 1), rfl, ex_l (e1.trans e) ha, sq_of ho, hF, by unfold offsM; rw [List.length_map, List.length_range]; omega, q⟩) fun p H2 np e2 hp => ?_
      have hl := runs_len F (offsM st (i + 1))
      obtain ⟨ts, hts, hpr⟩ := id hp
      have hts2 : ts.length = (runsM F (offsM st (i + 1))).length := by
        have := pr_len hpr
        rw [List.length_map] at this
        exact this
      refine s_when (b := goodRuns F st (i + 1)) (et_is (et_and (a := !(ts.map V.ref).isEmpty) (b := decide (runsM F (offsM st (i + 1))).Nodup) (et_lst (ev_var rfl) (sq_of hts)) (fun _ => et_B (ev_call (ea_cons (ev_var rfl) ea_nil) fun H3 e3 Q q E => ⟨p, runsM F (offsM st (i + 1)), rfl, hp.ex e3, by omega, q⟩))) ?_) (fun hg H3 e3 => s_ret (ev_var rfl) fun H4 e4 => ?_) (fun hg H3 e3 => ⟨(e1.trans e2).trans e3, fun k hk => ?_, _, _, _, rfl⟩)
      · unfold goodRuns
        congr 2
        rw [Bool.eq_iff_iff, List.isEmpty_iff, List.isEmpty_iff]
        cases ts <;> cases hR : runsM F (offsM st (i + 1)) <;> rw [hR] at hts2 <;> simp at hts2 ⊢
      · have e0 : neededM F st = some (i + 1) := by
          unfold neededM
          rw [List.find?_map]
          have : (List.range F.length).find? (goodRuns F st ∘ (· + 1)) = some i := by
            rw [List.find?_range_eq_some]
            refine ⟨hg, List.mem_range.mpr hi, fun k hk => ?_⟩
            show (!goodRuns F st (k + 1)) = true
            rw [hno k hk]
            rfl
          rw [this]
          rfl
        have z := q H4 (((e1.trans e2).trans e3).trans e4)
        rw [e0] at z
        exact z
      · by_cases h : k = i
        · rw [h]; exact hg
        · exact hno k (by omega)
    · obtain ⟨e1, hno, x2, x3, x4, rfl⟩ := hp
      have e0 : neededM F st = none := by
        unfold neededM
        rw [List.find?_eq_none]
        intro n hn
        obtain ⟨k, hk, rfl⟩ := List.mem_map.mp hn
        have := List.mem_range.mp hk
        rw [hno k (by omega)]
        exact Bool.false_ne_true
      refine s_ret ev_c fun H2 e2 => ?_
      have z := q H2 (e1.trans e2)
      rw [e0] at z
      exact z
theorem ok_stepsN (e : Ent K mg "steps_needed" s_steps_needed p_steps_needed) (T : Top K mg CM CV CG fG CK fK a_SMALL_WIDTH a_SMALL_SEEN) (c1 : Cal P w K mg base CX0 3 "looks_needed" p_looks_needed (spNeeded K)) (c2 : Cal P w K mg base CX0 5 "views" p_views spViews) : Cal P w K mg base CX0 6 "steps_needed" p_steps_needed spStepsN := by
  obtain ⟨f, fd, F, m_, b_⟩ := e
  obtain ⟨f_looks_needed, fd_looks_needed, G_looks_needed, m_looks_needed, k_looks_needed, b_looks_needed⟩ := c1
  obtain ⟨f_views, fd_views, G_views, m_views, k_views, b_views⟩ := c2
  refine ⟨f, fd, F.ok sc_steps_needed (fun vs H Q E h => ?_) (fun cdv A outer s H vs Q E hr h => ?_), m_, F.kp, b_⟩
  · obtain ⟨row, m, rfl, _⟩ := h
    rfl
  · obtain ⟨row, m, rfl, hr', hm, q⟩ := h
    have l1 := row_len hr'
    have l2 := isMask_len hm
    refine ⟨_, (pss_one (ps_ret (pe_call G_looks_needed (hr.mono (by decide)) (by rfl) m_looks_needed k_looks_needed b_looks_needed .nil pass0 (pa_cons (pe_call G_views (hr.mono (by decide)) (by rfl) m_views k_views b_views .nil pass0 (pa_cons (pv 0) (pa_cons (pv 1) pa_nil))) (pa_cons pe_int pa_nil))))), ?_⟩
    refine s_ret (v := optV (neededM (viewsM row m) 1)) (fun H1 e1 Q q => el_call (sp := spViews) (E := E0) (vs := [.str row, .str m]) (ea_cons (ev_var rfl) (ea_cons (ev_var rfl) ea_nil)) (fun H1 e1 Q q E => ⟨row, m, rfl, hr', hm, q⟩) H1 e1 _ fun p H2 np e2 hp => ⟨p, viewsM row m, 1, rfl, sq_of hp, by rw [viewsM_len]; omega, by omega, by omega, fun H3 e3 => q H3 (e2.trans e3)⟩) q
end
end K24
namespace K24
open PySem PySem.Spec PyProof.Rows L2 Evl Qt PySem.W
/-! looks by steps -/
def sumsM (ns : List Int) : List Int := (List.range (ns.length + 1)).map fun i => (ns.take i).sum
def startsM (F zs : List Str) (offs : List Int) : List Nat := (firstsM F.length offs).filter fun f => (List.range offs.length).all fun i => decide (missM (F.getD ((f : Int) + offs.getD i 0).toNat PySem.Str.empty) (zs.getD i PySem.Str.empty) = 0)
theorem tys_are2 : Paired ClsV [V.ty "list", V.ty "tuple"] [Value.type "list", Value.type "tuple"] := .cons (.ty _) (.cons (.ty _) .nil)
theorem kit_l {K : PySem.W.Frag} : PySem.W.kitAny K (.type "list") [.type "list", .type "tuple"] = some true :=
  kitAny_cons (r := true) (kit_ty (by decide +kernel : kitB "list" "list" = some true)) (fun z => by cases z) (fun _ => rfl)
theorem kit_t {K : PySem.W.Frag} : PySem.W.kitAny K (.type "tuple") [.type "list", .type "tuple"] = some true :=
  kitAny_cons (kit_ty (by decide +kernel : kitB "tuple" "list" = some false)) (fun _ => kitAny_cons (r := true) (kit_ty (by decide +kernel : kitB "tuple" "tuple" = some true)) (fun z => by cases z) (fun _ => rfl)) (fun z => by cases z)
def sumsTo (ns : List Int) (i : Nat) : List Int := (List.range (i + 1)).map fun j => (ns.take j).sum
def spFits : Sp := fun vs H Q _ => ∃ x y : Str, vs = [.str x, .str y] ∧ y.length = x.length ∧ x.length ≤ 1000 ∧ RetV (.bl (decide (missM x y = 0))) H Q
def spLooksC (K : PySem.W.Frag) : Sp := fun vs H Q _ => ∃ (a : Addr) (m : Str) (zs : List Str), vs = [.ref a, .str m] ∧ m.length ≤ 12 ∧ SqA K H a (zs.map V.str) ∧ 1 ≤ zs.length ∧ zs.length ≤ 60 ∧ (∀ z ∈ zs, isLook m (.str z) = true) ∧ RetV .non H Q
def spStepsC (K : PySem.W.Frag) : Sp := fun vs H Q _ => ∃ (a : Addr) (lo hi : Int) (ns : List Int), vs = [.ref a, .int lo, .int hi] ∧ SqA K H a (intsV ns) ∧ lo ≤ (ns.length : Int) ∧ (ns.length : Int) ≤ hi ∧ ns.length ≤ 100 ∧ (∀ n ∈ ns, -12 ≤ n ∧ n ≤ 12) ∧ RetV .non H Q
def spStarts (K : PySem.W.Frag) : Sp := fun vs H Q _ => ∃ (a l o : Addr) (F zs : List Str) (offs : List Int), vs = [.ref a, .ref l, .ref o] ∧ SqL K H a (F.map V.str) ∧ SqA K H l (zs.map V.str) ∧ SqL K H o (intsV offs) ∧ zs.length = offs.length ∧ offs.length ≤ 100 ∧ F.length ≤ 60 ∧
  (∀ x ∈ F, x.length ≤ 1000 ∧ ∀ z ∈ zs, z.length = x.length) ∧ RetL ((startsM F zs offs).map fun f : Nat => V.int (f : Int)) H Q
def spOffsets (K : PySem.W.Frag) : Sp := fun vs H Q _ => ∃ (a : Addr) (ns : List Int), vs = [.ref a] ∧ SqA K H a (intsV ns) ∧ ns.length ≤ 1000 ∧ RetL (intsV (sumsM ns)) H Q
def spStartsBy (K : PySem.W.Frag) : Sp := fun vs H Q _ => ∃ (row m : Str) (l s : Addr) (zs : List Str) (ns : List Int), vs = [.str row, .str m, .ref l, .ref s] ∧ isRow row = true ∧ isMask m = true ∧ SqA K H l (zs.map V.str) ∧ SqA K H s (intsV ns) ∧ zs.length = ns.length + 1 ∧ zs.length ≤ 60 ∧
  (∀ z ∈ zs, isLook m (.str z) = true) ∧ (∀ n ∈ ns, -12 ≤ n ∧ n ≤ 12) ∧ RetL ((startsM (viewsM row m) zs (sumsM ns)).map fun f : Nat => V.int (f : Int)) H Q
def spStepsTell (K : PySem.W.Frag) : Sp := fun vs H Q _ => ∃ (row m : Str) (s : Addr) (ns : List Int), vs = [.str row, .str m, .ref s] ∧ isRow row = true ∧ isMask m = true ∧ SqA K H s (intsV ns) ∧ ns.length ≤ 59 ∧ (∀ n ∈ ns, -12 ≤ n ∧ n ≤ 12) ∧ RetV (.bl (decide (runsM (viewsM row m) (sumsM ns)).Nodup)) H Q
def spStrided : Sp := fun vs H Q _ => ∃ (row m : Str) (s : Int), vs = [.str row, .str m, .int s] ∧ isRow row = true ∧ isMask m = true ∧ 1 ≤ s ∧ s ≤ 12 ∧ RetV (optV (neededM (viewsM row m) s)) H Q
section
variable {P : Program} {w : World} {K : PySem.W.Frag} {mg : Str → Option Value} {base : Heap} {CM CV CG fG CK fK a_SMALL_WIDTH a_SMALL_SEEN : Addr}
theorem rc_lenA {H : Hp} {a : Addr} {xs : List V} (h : SqA K H a xs) : RC (fun xs H Q => ∃ x n, xs = [x] ∧ LenV K x H n ∧ Q (.int (n : Int)) H) [.ref a] H (.int (xs.length : Int)) := fun H1 e _ q => by
  rcases h with h | h
  · exact ⟨.ref a, xs.length, rfl, .inl ⟨xs, sq_of (e _ _ h), rfl⟩, q H1 (Ex.refl H1)⟩
  · exact ⟨.ref a, xs.length, rfl, .inr ⟨xs, st_of (e _ _ h), rfl⟩, q H1 (Ex.refl H1)⟩
theorem ok_fits (e : Ent K mg "fits" s_fits p_fits) (T : Top K mg CM CV CG fG CK fK a_SMALL_WIDTH a_SMALL_SEEN) (c1 : Cal P w K mg base CX0 1 "others" p_others spOthers) : Cal P w K mg base CX0 2 "fits" p_fits spFits := by
  obtain ⟨f, fd, F, m_, b_⟩ := e
  obtain ⟨f_others, fd_others, G_others, m_others, k_others, b_others⟩ := c1
  refine ⟨f, fd, F.ok sc_fits (fun vs H Q E h => ?_) (fun cdv A outer s H vs Q E hr h => ?_), m_, F.kp, b_⟩
  · obtain ⟨x, y, rfl, _⟩ := h
    rfl
  · obtain ⟨x, y, rfl, hl, hx, q⟩ := h
    refine ⟨_, (pss_one (ps_ret (pe_cmpR op_eq (pe_call G_others (hr.mono (by decide)) (by rfl) m_others k_others b_others .nil pass0 (pa_cons (pv 0) (pa_cons (pv 1) pa_nil))) pe_int (nomark _)))), ?_⟩
    refine s_ret (v := .bl (decide (missM x y = 0))) (ev_is (ev_op (x := .int (missM x y : Int)) (y := .int 0) (ev_call (ea_cons (ev_var rfl) (ea_cons (ev_var rfl) ea_nil)) fun G e Q q E => ⟨x, y, rfl, hl, hx, q⟩) ev_c (rv_eq rfl)) ?_) q
    congr 1
    exact decide_eq_decide.mpr ⟨fun h => by injection h with h; omega, fun h => by rw [h]; rfl⟩
theorem ok_starts (e : Ent K mg "starts_of" s_starts_of p_starts_of) (T : Top K mg CM CV CG fG CK fK a_SMALL_WIDTH a_SMALL_SEEN) (c1 : Cal P w K mg base CX0 1 "first_places" p_first_places (spFirsts K)) (c2 : Cal P w K mg base CX0 2 "fits" p_fits spFits) : Cal P w K mg base CX0 3 "starts_of" p_starts_of (spStarts K) := by
  obtain ⟨f, fd, F, m_, b_⟩ := e
  obtain ⟨f_first_places, fd_first_places, G_first_places, m_first_places, k_first_places, b_first_places⟩ := c1
  obtain ⟨f_fits, fd_fits, G_fits, m_fits, k_fits, b_fits⟩ := c2
  refine ⟨f, fd, F.ok sc_starts_of (fun vs H Q E h => ?_) (fun cdv A outer s H vs Q E hr h => ?_), m_, F.kp, b_⟩
  · obtain ⟨a, l, o, F, zs, offs, rfl, _⟩ := h
    rfl
  · obtain ⟨a, l, o, F, zs, offs, rfl, ha, hz, ho, hl, hlo, hF, hfz, q⟩ := h
    have hfl := firsts_len F.length offs
    refine ⟨_, (pss_one (ps_ret (pe_lc (own := [("first", 3)]) (g := gName 3) (by rfl) sc_starts_of.nd (pi_list (pe_call G_first_places (hr.mono (by decide)) (by rfl) m_first_places k_first_places b_first_places .nil pass0 (pa_cons (pe_callB call_len (by rfl) T.m_len (by decide +kernel) (pa_cons (pv 0) pa_nil)) (pa_cons (pv 2) pa_nil)))) (blkOk_by (own := [("first", 3)]) (N := n_starts_of) (sc := (defScope s_starts_of)) (by decide +kernel)) (fun _ _ _ _ _ => pg_name (i := 3) sc_starts_of.nd rfl (Or.inr rfl)) (fun _ _ _ _ _ => pts_one (pt_val (pe_callB (cr_allK K rfl rfl) (by rfl) T.m_all (by decide +kernel) (pa_cons (by exact (pe_lc (own := [("offset", 4), ("told", 5)]) (g := gTup K 2 (gCons (gName 4) (gCons (gName 5) gNil))) (by rfl) sc_starts_of.nd (pi_zipBK K rfl (by rfl) T.m_zip (pa_cons (pv 2) (pa_cons (pv 1) pa_nil))) (blkOk_by (own := [("offset", 4), ("told", 5)]) (N := n_starts_of) (sc := (relS _ (defScope s_starts_of))) (by decide +kernel)) (fun _ _ _ _ _ => by exact (pg_tup rfl (pgs_cons (by exact pg_name (i := 4) sc_starts_of.nd rfl (Or.inl rfl)) (pgs_cons (by exact pg_name (i := 5) sc_starts_of.nd rfl (Or.inl rfl)) pgs_nil)))) (fun _ _ _ _ _ => pts_nil) (fun _ _ _ _ _ => (pe_call G_fits (hr.mono (by decide)) (by rfl) m_fits k_fits b_fits .nil pass0 (pa_cons (pe_ix (ix_listK K rfl) (pv 0) (pe_op op_add (pv 3) (pv 4)) (fun _ _ => rfl)) (pa_cons (pv 5) pa_nil)))))) pa_nil)))) (fun _ _ _ _ _ => (pv 3))))), ?_⟩
    have ilt : ∀ {i : Nat} {x : V}, ((firstsM F.length offs).map fun f : Nat => V.int (f : Int))[i]? = some x → ∃ k, (firstsM F.length offs).getD i 0 = k ∧ x = .int (k : Int) ∧ k ∈ firstsM F.length offs := fun {i x} hx => by
      rw [List.getElem?_map] at hx
      cases hk : (firstsM F.length offs)[i]? with
      | none => rw [hk] at hx; cases hx
      | some k =>
        rw [hk] at hx
        exact ⟨k, by rw [List.getD_eq_getElem?_getD, hk]; rfl, (Option.some.inj hx).symm, List.mem_of_getElem? hk⟩
    refine s_retL (xs := (startsM F zs offs).map fun f : Nat => V.int (f : Int)) (el_is (el_lcNL (xs := (firstsM F.length offs).map fun f : Nat => V.int (f : Int)) (fun i => (List.range offs.length).all fun j => decide (missM (F.getD (((firstsM F.length offs).getD i 0 : Nat) + offs.getD j 0 : Int).toNat PySem.Str.empty) (zs.getD j PySem.Str.empty) = 0)) (fun i => .int (((firstsM F.length offs).getD i 0 : Nat) : Int))
      (el_call (vs := [.int (F.length : Int), .ref o]) (ea_cons (ev_is (ev_cb (ea_cons (ev_var rfl) ea_nil) (rc_lenL ha)) (by rw [List.length_map])) (ea_cons (ev_var rfl) ea_nil)) fun H1 e1 Q q E => ⟨o, F.length, offs, rfl, ex_l e1 ho, by omega, by omega, q⟩) (by rw [List.length_map]; omega) (fun _ => rfl) (fun i x H1 e1 hx => ?_) (fun i x H1 e1 hx _ => ?_)) ?_) q
    · obtain ⟨k, hk, rfl, hkm⟩ := ilt hx
      obtain ⟨hk1, hk2⟩ := firsts_ok hkm
      rw [hk]
      refine et_B (ev_is (ev_all (bs := (List.range offs.length).map fun j => decide (missM (F.getD ((k : Int) + offs.getD j 0).toNat PySem.Str.empty) (zs.getD j PySem.Str.empty) = 0)) ?_) (by rw [List.all_map]; rfl))
      refine el_is (el_lcZB (xs := intsV offs) (ys := zs.map V.str) (fun _ => true) (fun j => .bl (decide (missM (F.getD ((k : Int) + offs.getD j 0).toNat PySem.Str.empty) (zs.getD j PySem.Str.empty) = 0))) (ea_cons (ev_var rfl) (ea_cons (ev_var rfl) ea_nil)) (ex_l e1 ho) (hz.ex e1) (by simp [intsV, hl]) (by simp [intsV]; omega) (fun _ _ => rfl) (fun _ _ _ _ _ _ _ => et_yes) (fun j x y H2 e2 hx hy _ => ?_)) ?_
      · have hj : j < offs.length := by
          have := (List.getElem?_eq_some_iff.mp hx).1
          rw [List.length_map] at this
          exact this
        have hx2 : x = .int (offs.getD j 0) := by
          rw [List.getElem?_map, List.getElem?_eq_getElem hj] at hx
          rw [List.getD_eq_getElem?_getD, List.getElem?_eq_getElem hj]
          exact (Option.some.inj hx).symm
        have hjz : j < zs.length := by omega
        have hy2 : y = .str (zs.getD j PySem.Str.empty) := by
          rw [List.getElem?_map, List.getElem?_eq_getElem hjz] at hy
          rw [List.getD_eq_getElem?_getD, List.getElem?_eq_getElem hjz]
          exact (Option.some.inj hy).symm
        subst hx2 hy2
        have hom : offs.getD j 0 ∈ offs := by
          rw [List.getD_eq_getElem?_getD, List.getElem?_eq_getElem hj]
          exact List.getElem_mem hj
        have hzm : zs.getD j PySem.Str.empty ∈ zs := by
          rw [List.getD_eq_getElem?_getD, List.getElem?_eq_getElem hjz]
          exact List.getElem_mem hjz
        obtain ⟨b1, b2⟩ := hk2 _ hom
        obtain ⟨n, hn⟩ := Int.eq_ofNat_of_zero_le b1
        rw [hn, Int.toNat_natCast]
        have hn2 : n < F.length := by omega
        have hFm : F.getD n PySem.Str.empty ∈ F := by
          rw [List.getD_eq_getElem?_getD, List.getElem?_eq_getElem hn2]
          exact List.getElem_mem hn2
        obtain ⟨w1, w2⟩ := hfz _ hFm
        refine ev_call (vs := [.str (F.getD n PySem.Str.empty), .str (zs.getD j PySem.Str.empty)]) (ea_cons (ev_op (ev_var rfl) (ev_op (ev_var rfl) (ev_var rfl) rv_I0) (rv_ixL (ex_l (e1.trans e2) ha) ?_)) (ea_cons (ev_var rfl) ea_nil)) fun G e Q q E => ⟨_, _, rfl, w2 _ hzm, w1, q⟩
        rw [hn]
        refine atI_nat ?_
        rw [List.getElem?_map, List.getElem?_eq_getElem hn2, List.getD_eq_getElem?_getD, List.getElem?_eq_getElem hn2]
        rfl
      · rw [List.length_map, given_bl]
    · obtain ⟨k, hk, rfl, hkm⟩ := ilt hx
      rw [hk]
      exact ev_var rfl
    · unfold startsM
      rw [List.length_map]
      exact given_filter (firstsM F.length offs) 0 (fun f => (List.range offs.length).all fun i => decide (missM (F.getD ((f : Int) + offs.getD i 0).toNat PySem.Str.empty) (zs.getD i PySem.Str.empty) = 0)) (fun f : Nat => V.int (f : Int))
end
end K24
namespace K24
open PySem PySem.Spec PyProof.Rows L2 Evl Qt
/-! ### rows made longer, as lists -/
def vw (l r : List Nat) (i : Nat) : List Nat := l.map fun p => r.getD (i + p) 0
def vws (l : List Nat) (w : Nat) (r : List Nat) : List (List Nat) := (List.range (r.length + 1 - w)).map (vw l r)
/-- in how many places two views differ; views that differ in so many or more -/
def dif (a b : List Nat) : Nat := ((List.range a.length).filter fun i => !decide (b.getD i 0 = a.getD i 0)).length
abbrev ap (far : Nat) (vs : List (List Nat)) : Prop := vs.Pairwise fun a b => far ≤ dif a b
def stp (far : Nat) (sg l : List Nat) (w : Nat) (r : List Nat) : List (List Nat) := (sg.filter fun c => decide (ap far (vws l w (r ++ [c])))).map fun c => r ++ [c]
def gro (far : Nat) (sg l : List Nat) (w : Nat) (r0 : List Nat) : Nat → List (List Nat)
  | 0 => [r0]
  | n + 1 => (gro far sg l w r0 n).flatMap (stp far sg l w)
/-- such rows from the beginning, all views different -/
def lev (sg l : List Nat) (w : Nat) (n : Nat) : List (List Nat) := gro 1 sg l w [] n
theorem lev_succ (sg l : List Nat) (w n : Nat) : lev sg l w (n + 1) = (lev sg l w n).flatMap (stp 1 sg l w) := rfl
theorem dif_self (a : List Nat) : dif a a = 0 := by
  unfold dif
  rw [List.length_eq_zero_iff, List.filter_eq_nil_iff]
  intro i _
  simp
theorem dif_one {a b : List Nat} (h : b.length = a.length) (hne : a ≠ b) : 1 ≤ dif a b := by
  unfold dif
  refine Nat.one_le_iff_ne_zero.mpr fun z => hne ?_
  rw [List.length_eq_zero_iff, List.filter_eq_nil_iff] at z
  apply List.ext_getElem h.symm
  intro i h1 h2
  have q := z i (List.mem_range.mpr h1)
  simp only [Bool.not_eq_true', decide_eq_false_iff_not, Decidable.not_not, List.getD_eq_getElem?_getD, List.getElem?_eq_getElem h1, List.getElem?_eq_getElem h2] at q
  exact (by simpa using q : b[i] = a[i]).symm
theorem ap_nodup {far : Nat} {vs : List (List Nat)} (h1 : 1 ≤ far) (h : ap far vs) : vs.Nodup := h.imp fun {a b} q e => by
  rw [e, dif_self] at q
  omega
theorem vws_len1 {l : List Nat} {w : Nat} {r v : List Nat} (h : v ∈ vws l w r) : v.length = l.length := by
  unfold vws at h
  obtain ⟨i, _, rfl⟩ := List.mem_map.mp h
  exact List.length_map ..
theorem ap_one {l : List Nat} {w : Nat} {r : List Nat} : ap 1 (vws l w r) ↔ (vws l w r).Nodup :=
  ⟨ap_nodup (Nat.le_refl _), fun h => (List.Pairwise.and_mem.mp h).imp fun {a b} q => dif_one ((vws_len1 q.2.1).trans (vws_len1 q.1).symm) q.2.2⟩
theorem stp_one (sg l : List Nat) (w : Nat) (r : List Nat) : stp 1 sg l w r = (sg.filter fun c => decide (vws l w (r ++ [c])).Nodup).map fun c => r ++ [c] := by
  unfold stp
  congr 1
  refine List.filter_congr fun c _ => ?_
  exact decide_eq_decide.mpr ap_one
theorem txt_inj {a b : List Nat} (h : txt a = txt b) : a = b := by rw [← txt_l a, ← txt_l b, h]
theorem nodup_le {α : Type} [DecidableEq α] : ∀ (a D : List α), a.Nodup → (∀ x ∈ a, x ∈ D) → a.length ≤ D.length
  | [], _, _, _ => Nat.zero_le _
  | x :: r, D, h, hm => by
    rw [List.nodup_cons] at h
    have hx := hm x List.mem_cons_self
    have z := nodup_le r (D.erase x) h.2 fun y hy => (List.mem_erase_of_ne fun e : y = x => h.1 (by rw [← e]; exact hy)).mpr (hm y (List.mem_cons_of_mem _ hy))
    rw [List.length_erase_of_mem hx] at z
    have := List.length_pos_of_mem hx
    rw [List.length_cons]
    omega
theorem getD_app {r : List Nat} {c i : Nat} (h : i < r.length) : (r ++ [c]).getD i 0 = r.getD i 0 := by
  rw [List.getD_eq_getElem?_getD, List.getD_eq_getElem?_getD, List.getElem?_append_left h]
theorem vws_snoc {l r : List Nat} {w c : Nat} (hl : ∀ p ∈ l, p < w) : vws l w (r ++ [c]) = vws l w r ++ (if w ≤ r.length + 1 then [vw l (r ++ [c]) (r.length + 1 - w)] else []) := by
  have old : ∀ i, i < r.length + 1 - w → vw l (r ++ [c]) i = vw l r i := fun i hi => List.map_congr_left fun p hp => getD_app (by have := hl p hp; omega)
  have e : (r ++ [c]).length + 1 - w = r.length + 1 + 1 - w := by rw [List.length_append]; rfl
  unfold vws
  rw [e]
  by_cases h : w ≤ r.length + 1
  · rw [if_pos h, show r.length + 1 + 1 - w = (r.length + 1 - w) + 1 by omega, List.range_succ, List.map_append]
    refine congrArg (· ++ _) (List.map_congr_left fun i hi => old i (List.mem_range.mp hi))
  · rw [if_neg h, List.append_nil, show r.length + 1 + 1 - w = 0 by omega, show r.length + 1 - w = 0 by omega]
    rfl
theorem vws_nil {l : List Nat} {w : Nat} (h : 1 ≤ w) : vws l w [] = [] := by
  unfold vws
  rw [show ([] : List Nat).length + 1 - w = 0 by simp; omega]
  rfl
theorem stp_mem {far : Nat} {sg l r u : List Nat} {w : Nat} : u ∈ stp far sg l w r ↔ ∃ c, c ∈ sg ∧ ap far (vws l w (r ++ [c])) ∧ u = r ++ [c] := by
  unfold stp
  rw [List.mem_map]
  constructor
  · rintro ⟨c, hc, rfl⟩
    obtain ⟨c1, c2⟩ := List.mem_filter.mp hc
    exact ⟨c, c1, of_decide_eq_true c2, rfl⟩
  · rintro ⟨c, h1, h2, rfl⟩
    exact ⟨c, List.mem_filter.mpr ⟨h1, decide_eq_true h2⟩, rfl⟩
/-- what stands in a level: the rows so long that begin with r0, of these signs, their views apart -/
theorem gro_each {far : Nat} {sg l r0 : List Nat} {w n : Nat} {r : List Nat} (hs : ∀ c ∈ r0, c ∈ sg) (h0 : ap far (vws l w r0)) (h : r ∈ gro far sg l w r0 n) : r.length = r0.length + n ∧ (∀ c ∈ r, c ∈ sg) ∧ ap far (vws l w r) := by
  induction n generalizing r with
  | zero =>
    have : r = r0 := by simpa [gro] using h
    subst this
    exact ⟨rfl, hs, h0⟩
  | succ n ih =>
    unfold gro at h
    obtain ⟨u, hu, hr⟩ := List.mem_flatMap.mp h
    obtain ⟨c, c1, c2, rfl⟩ := stp_mem.mp hr
    obtain ⟨h1, h2, h3⟩ := ih hu
    refine ⟨by rw [List.length_append, h1]; rfl, fun d hd => ?_, c2⟩
    rcases List.mem_append.mp hd with z | z
    · exact h2 d z
    · rw [List.mem_singleton.mp z]; exact c1
theorem stp_len (far : Nat) (sg l : List Nat) (w : Nat) (r : List Nat) : (stp far sg l w r).length ≤ sg.length := by
  unfold stp
  rw [List.length_map]
  exact List.length_filter_le _ _
theorem flat_le {α β : Type} (f : α → List β) (k : Nat) (h : ∀ x, (f x).length ≤ k) : ∀ xs : List α, (xs.flatMap f).length ≤ xs.length * k
  | [] => by simp
  | x :: r => by
    rw [List.flatMap_cons, List.length_append, List.length_cons, Nat.succ_mul]
    have := flat_le f k h r
    have := h x
    omega
theorem gro_len (far : Nat) (sg l : List Nat) (w : Nat) (r0 : List Nat) (n : Nat) : (gro far sg l w r0 n).length ≤ sg.length ^ n := by
  induction n with
  | zero => exact Nat.le_refl _
  | succ n ih =>
    unfold gro
    rw [Nat.pow_succ]
    exact Nat.le_trans (flat_le _ _ (stp_len far sg l w) _) (Nat.mul_le_mul_right _ ih)
theorem lev_each {sg l : List Nat} {w n : Nat} {r : List Nat} (hw : 1 ≤ w) (h : r ∈ lev sg l w n) : r.length = n ∧ (∀ c ∈ r, c ∈ sg) ∧ (vws l w r).Nodup := by
  obtain ⟨h1, h2, h3⟩ := gro_each (far := 1) (fun c hc => (by cases hc)) (by rw [vws_nil hw]; exact .nil) h
  exact ⟨by rw [h1]; simp, h2, ap_nodup (Nat.le_refl _) h3⟩
/-! ### words -/
def wordsL (sg : List Nat) : Nat → List (List Nat)
  | 0 => [[]]
  | n + 1 => (wordsL sg n).flatMap fun w => sg.map fun c => w ++ [c]
def tS (l : List (List Nat)) : List V := l.map fun w => V.str (txt w)
theorem tS_len (l : List (List Nat)) : (tS l).length = l.length := List.length_map ..
theorem tS_get {l : List (List Nat)} {i : Nat} {x : V} (h : (tS l)[i]? = some x) : i < l.length ∧ x = .str (txt (l.getD i [])) := by
  unfold tS at h
  rw [List.getElem?_map] at h
  cases e : l[i]? with
  | none => rw [e] at h; cases h
  | some c =>
    rw [e] at h
    refine ⟨(List.getElem?_eq_some_iff.mp e).1, ?_⟩
    rw [List.getD_eq_getElem?_getD, e]
    exact (Option.some.inj h).symm
theorem words_len (sg : List Nat) (n : Nat) : (wordsL sg n).length = sg.length ^ n := by
  induction n with
  | zero => rfl
  | succ n ih =>
    unfold wordsL
    rw [List.length_flatMap]
    simp only [List.length_map]
    rw [List.map_const', List.sum_replicate_nat, ih, Nat.pow_succ]
theorem words_each {sg : List Nat} {n : Nat} {w : List Nat} (h : w ∈ wordsL sg n) : w.length = n ∧ ∀ c ∈ w, c ∈ sg := by
  induction n generalizing w with
  | zero =>
    have : w = [] := by simpa [wordsL] using h
    subst this
    exact ⟨rfl, fun c hc => by cases hc⟩
  | succ n ih =>
    unfold wordsL at h
    obtain ⟨u, hu, hw⟩ := List.mem_flatMap.mp h
    obtain ⟨c, hc, rfl⟩ := List.mem_map.mp hw
    obtain ⟨h1, h2⟩ := ih hu
    refine ⟨by rw [List.length_append, h1]; rfl, fun d hd => ?_⟩
    rcases List.mem_append.mp hd with z | z
    · exact h2 d z
    · rw [List.mem_singleton.mp z]; exact hc
theorem words_mem {sg : List Nat} : ∀ (n : Nat) (u : List Nat), u.length = n → (∀ c ∈ u, c ∈ sg) → u ∈ wordsL sg n
  | 0, u, h, _ => by
    have : u = [] := List.length_eq_zero_iff.mp h
    subst this
    simp [wordsL]
  | n + 1, u, h, hc => by
    have hne : u ≠ [] := fun e => by rw [e] at h; cases h
    have e := List.dropLast_concat_getLast hne
    unfold wordsL
    refine List.mem_flatMap.mpr ⟨u.dropLast, words_mem n _ (by rw [List.length_dropLast, h]; rfl) (fun c hcd => hc c (List.dropLast_subset _ hcd)), List.mem_map.mpr ⟨u.getLast hne, hc _ (List.getLast_mem hne), e⟩⟩
theorem vw_in {sg l r : List Nat} {w i : Nat} (hl : ∀ p ∈ l, p < w) (hr : ∀ c ∈ r, c ∈ sg) (hi : i + w ≤ r.length) : vw l r i ∈ wordsL sg l.length := by
  refine words_mem _ _ (by unfold vw; rw [List.length_map]) fun c hc => ?_
  unfold vw at hc
  obtain ⟨p, hp, rfl⟩ := List.mem_map.mp hc
  have := hl p hp
  rw [List.getD_eq_getElem?_getD, List.getElem?_eq_getElem (by omega)]
  exact hr _ (List.getElem_mem _)
theorem words_nodup {sg : List Nat} (h : sg.Nodup) : ∀ n, (wordsL sg n).Nodup
  | 0 => by simp [wordsL]
  | n + 1 => by
    unfold wordsL List.Nodup
    rw [List.pairwise_flatMap]
    refine ⟨fun u _ => ?_, (words_nodup h n).imp fun {a b} hne x hx y hy e => ?_⟩
    · rw [List.pairwise_map]
      exact h.imp fun hne e => hne (by simpa using e)
    · obtain ⟨c, _, rfl⟩ := List.mem_map.mp hx
      obtain ⟨d, _, rfl⟩ := List.mem_map.mp hy
      exact hne (List.append_inj_left' e rfl)
theorem gro_top {far : Nat} {sg l r0 : List Nat} {w n : Nat} {r : List Nat} (h1 : 1 ≤ far) (hl : ∀ p ∈ l, p < w) (hw : 1 ≤ w) (hs : ∀ c ∈ r0, c ∈ sg) (h0 : ap far (vws l w r0)) (h : r ∈ gro far sg l w r0 n) : r0.length + n + 1 - w ≤ sg.length ^ l.length := by
  obtain ⟨g1, g2, g3⟩ := gro_each hs h0 h
  have z := nodup_le (vws l w r) (wordsL sg l.length) (ap_nodup h1 g3) fun v hv => by
    unfold vws at hv
    obtain ⟨i, hi, rfl⟩ := List.mem_map.mp hv
    have := List.mem_range.mp hi
    exact vw_in hl g2 (by omega)
  rw [words_len] at z
  unfold vws at z
  rw [List.length_map, List.length_range, g1] at z
  exact z
theorem gro_end {far : Nat} {sg l r0 : List Nat} {w n : Nat} (h1 : 1 ≤ far) (hl : ∀ p ∈ l, p < w) (hw : 1 ≤ w) (hs : ∀ c ∈ r0, c ∈ sg) (h0 : ap far (vws l w r0)) (h : sg.length ^ l.length + w ≤ r0.length + n) : gro far sg l w r0 n = [] := by
  cases e : gro far sg l w r0 n with
  | nil => rfl
  | cons r t =>
    have := gro_top (r := r) (n := n) (sg := sg) h1 hl hw hs h0 (by rw [e]; exact List.mem_cons_self)
    omega
theorem gro_dead {far : Nat} {sg l r0 : List Nat} {w n k : Nat} (h : gro far sg l w r0 n = []) (hk : n ≤ k) : gro far sg l w r0 k = [] := by
  induction hk with
  | refl => exact h
  | step _ ih =>
    show (gro far sg l w r0 _).flatMap _ = []
    rw [ih]
    rfl
def IsTopF (far : Nat) (sg l : List Nat) (w : Nat) (r0 : List Nat) (n : Nat) : Prop := gro far sg l w r0 n ≠ [] ∧ gro far sg l w r0 (n + 1) = []
theorem topF_one {far : Nat} {sg l r0 : List Nat} {w n k : Nat} (a : IsTopF far sg l w r0 n) (b : IsTopF far sg l w r0 k) : n = k := by
  rcases Nat.lt_trichotomy n k with h | h | h
  · exact absurd (gro_dead a.2 h) b.1
  · exact h
  · exact absurd (gro_dead b.2 h) a.1
theorem topF_lt {far : Nat} {sg l r0 : List Nat} {w n : Nat} (h1 : 1 ≤ far) (hl : ∀ p ∈ l, p < w) (hw : 1 ≤ w) (hs : ∀ c ∈ r0, c ∈ sg) (h0 : ap far (vws l w r0)) (a : gro far sg l w r0 n ≠ []) : r0.length + n < sg.length ^ l.length + w := by
  rcases Nat.lt_or_ge (r0.length + n) (sg.length ^ l.length + w) with h | h
  · exact h
  · exact absurd (gro_end h1 hl hw hs h0 h) a
theorem gro_small {far : Nat} {sg l r0 : List Nat} {w : Nat} (h1 : 1 ≤ far) (hl : ∀ p ∈ l, p < w) (hw : 1 ≤ w) (hs : ∀ c ∈ r0, c ∈ sg) (h0 : ap far (vws l w r0)) (n : Nat) (hs1 : 1 ≤ sg.length) (hB : sg.length ^ (sg.length ^ l.length + w - 1) ≤ 8388608) : (gro far sg l w r0 n).length ≤ 8388608 := by
  rcases Nat.lt_or_ge (r0.length + n) (sg.length ^ l.length + w) with h | h
  · exact Nat.le_trans (gro_len far sg l w r0 n) (Nat.le_trans (Nat.pow_le_pow_right hs1 (by omega)) hB)
  · rw [gro_end h1 hl hw hs h0 h]
    exact Nat.zero_le _
def IsTop (sg l : List Nat) (w n : Nat) : Prop := lev sg l w n ≠ [] ∧ lev sg l w (n + 1) = []
theorem top_one {sg l : List Nat} {w n k : Nat} (a : IsTop sg l w n) (b : IsTop sg l w k) : n = k := topF_one a b
theorem ap_nil {far : Nat} {l : List Nat} {w : Nat} (hw : 1 ≤ w) : ap far (vws l w []) := by
  rw [vws_nil hw]
  exact .nil
theorem no_mem {sg : List Nat} : ∀ c ∈ ([] : List Nat), c ∈ sg := fun c hc => by cases hc
theorem top_lt {sg l : List Nat} {w n : Nat} (hw : 1 ≤ w) (hl : ∀ p ∈ l, p < w) (a : lev sg l w n ≠ []) : n < sg.length ^ l.length + w := by
  have z := topF_lt (Nat.le_refl 1) hl hw no_mem (ap_nil hw) a
  simpa using z
theorem lev_end {sg l : List Nat} {w n : Nat} (hw : 1 ≤ w) (hl : ∀ p ∈ l, p < w) (h : sg.length ^ l.length + w ≤ n) : lev sg l w n = [] := gro_end (Nat.le_refl 1) hl hw no_mem (ap_nil hw) (by simpa using h)
theorem lev_small {sg l : List Nat} {w : Nat} (hw : 1 ≤ w) (hl : ∀ p ∈ l, p < w) (n : Nat) (h1 : 1 ≤ sg.length) (hB : sg.length ^ (sg.length ^ l.length + w - 1) ≤ 8388608) : (lev sg l w n).length ≤ 8388608 :=
  gro_small (Nat.le_refl 1) hl hw no_mem (ap_nil hw) n h1 hB
/-! ### the bits of views -/
def barK (p : Nat → Bool) : Nat → Nat
  | 0 => 0
  | k + 1 => barK p k + (if p k = true then 2 ^ k else 0)
theorem barK_lt (p : Nat → Bool) : ∀ k, barK p k < 2 ^ k
  | 0 => by simp [barK]
  | k + 1 => by
    have := barK_lt p k
    unfold barK
    rw [Nat.pow_succ]
    split <;> omega
theorem barK_bit (p : Nat → Bool) (j : Nat) : ∀ k, (barK p k).testBit j = (decide (j < k) && p j)
  | 0 => by simp [barK]
  | k + 1 => by
    have hl := barK_lt p k
    have ih := barK_bit p j k
    unfold barK
    by_cases hp : p k = true
    · rw [if_pos hp]
      have e : barK p k + 2 ^ k = 2 ^ k ||| barK p k := by
        have z := Nat.two_pow_add_eq_or_of_lt hl 1
        rw [Nat.mul_one] at z
        rw [← z, Nat.add_comm]
      rw [e, Nat.testBit_or, Nat.testBit_two_pow, ih]
      by_cases hj : k = j
      · subst hj
        simp [hp]
      · rw [decide_eq_false hj, Bool.false_or]
        congr 1
        exact decide_eq_decide.mpr (by omega)
    · rw [if_neg hp, Nat.add_zero, ih]
      by_cases hj : j = k
      · subst hj
        simp [hp]
      · congr 1
        exact decide_eq_decide.mpr (by omega)
/-- the views that one bars, as bits: VS are all views in their order -/
def barN (far : Nat) (VS : List (List Nat)) (v : List Nat) : Nat := barK (fun i => decide (dif v (VS.getD i []) < far)) VS.length
theorem bar_bit {far : Nat} {VS : List (List Nat)} {v u : List Nat} (hu : u ∈ VS) : (barN far VS v).testBit (VS.idxOf u) = decide (dif v u < far) := by
  unfold barN
  have h := List.idxOf_lt_length_iff.mpr hu
  rw [barK_bit, decide_eq_true h, Bool.true_and, List.getD_eq_getElem?_getD, List.getElem?_eq_getElem h]
  show decide (dif v VS[VS.idxOf u] < far) = _
  rw [List.getElem_idxOf h]
/-- what the views of a row bar -/
def brs (far : Nat) (VS vs : List (List Nat)) : Nat := vs.foldl (fun a v => a ||| barN far VS v) 0
theorem brs_snoc (far : Nat) (VS vs : List (List Nat)) (v : List Nat) : brs far VS (vs ++ [v]) = brs far VS vs ||| barN far VS v := by
  unfold brs
  rw [List.foldl_append]
  rfl
theorem brs_go (far : Nat) (VS : List (List Nat)) (j : Nat) : ∀ (vs : List (List Nat)) (a : Nat), (vs.foldl (fun a v => a ||| barN far VS v) a).testBit j = true ↔ a.testBit j = true ∨ ∃ v ∈ vs, (barN far VS v).testBit j = true
  | [], a => by simp
  | v :: vs, a => by
    rw [List.foldl_cons, brs_go far VS j vs, Nat.testBit_or, Bool.or_eq_true]
    constructor
    · rintro ((h | h) | ⟨u, hu, h⟩)
      · exact .inl h
      · exact .inr ⟨v, List.mem_cons_self, h⟩
      · exact .inr ⟨u, List.mem_cons_of_mem _ hu, h⟩
    · rintro (h | ⟨u, hu, h⟩)
      · exact .inl (.inl h)
      · rcases List.mem_cons.mp hu with e | e
        · exact .inl (.inr (e ▸ h))
        · exact .inr ⟨u, e, h⟩
theorem and_pow (x i : Nat) : x &&& 2 ^ i = 0 ↔ x.testBit i = false := by
  constructor
  · intro h
    have z := congrArg (Nat.testBit · i) h
    simp only [Nat.testBit_and, Nat.testBit_two_pow, Nat.zero_testBit, decide_true, Bool.and_true] at z
    exact z
  · intro h
    apply Nat.eq_of_testBit_eq
    intro j
    rw [Nat.testBit_and, Nat.testBit_two_pow, Nat.zero_testBit]
    by_cases e : i = j
    · rw [← e, h]; rfl
    · rw [decide_eq_false e, Bool.and_false]
/-- the bit of the view that a last letter makes, and what it bars -/
def bt (VS : List (List Nat)) (l : List Nat) (w : Nat) (r : List Nat) : Nat := if w ≤ r.length then 2 ^ VS.idxOf (vw l r (r.length - w)) else 0
def nr (far : Nat) (VS : List (List Nat)) (l : List Nat) (w : Nat) (r : List Nat) : Nat := if w ≤ r.length then barN far VS (vw l r (r.length - w)) else 0
theorem brs_step {far : Nat} {VS : List (List Nat)} {l r : List Nat} {w c : Nat} (hl : ∀ p ∈ l, p < w) : brs far VS (vws l w (r ++ [c])) = brs far VS (vws l w r) ||| nr far VS l w (r ++ [c]) := by
  have e : (r ++ [c]).length = r.length + 1 := by simp
  rw [vws_snoc hl]
  unfold nr
  rw [e]
  by_cases h : w ≤ r.length + 1
  · rw [if_pos h, if_pos h, brs_snoc]
  · rw [if_neg h, if_neg h, List.append_nil, Nat.or_zero]
theorem fits {far : Nat} {sg l r : List Nat} {w c : Nat} (hl : ∀ p ∈ l, p < w) (hd : ap far (vws l w r)) (hr : ∀ d ∈ r ++ [c], d ∈ sg) :
    brs far (wordsL sg l.length) (vws l w r) &&& bt (wordsL sg l.length) l w (r ++ [c]) = 0 ↔ ap far (vws l w (r ++ [c])) := by
  have e : (r ++ [c]).length = r.length + 1 := by simp
  rw [vws_snoc hl]
  unfold bt
  rw [e]
  by_cases h : w ≤ r.length + 1
  · rw [if_pos h, if_pos h, and_pow]
    have hin : vw l (r ++ [c]) (r.length + 1 - w) ∈ wordsL sg l.length := vw_in hl hr (by rw [e]; omega)
    obtain ⟨v', hv'⟩ : ∃ v', vw l (r ++ [c]) (r.length + 1 - w) = v' := ⟨_, rfl⟩
    rw [hv'] at hin ⊢
    unfold ap
    rw [List.pairwise_append]
    have key : (brs far (wordsL sg l.length) (vws l w r)).testBit ((wordsL sg l.length).idxOf v') = true ↔ ∃ v ∈ vws l w r, dif v v' < far := by
      unfold brs
      rw [brs_go]
      simp only [Nat.zero_testBit, Bool.false_eq_true, false_or]
      refine exists_congr fun v => and_congr_right fun _ => ?_
      rw [bar_bit hin, decide_eq_true_iff]
    constructor
    · intro z
      refine ⟨hd, by simp, fun a ha b hb => ?_⟩
      rw [List.mem_singleton.mp hb]
      refine Nat.le_of_not_lt fun q => ?_
      have := key.mpr ⟨a, ha, q⟩
      rw [z] at this
      cases this
    · rintro ⟨_, _, z⟩
      cases q : (brs far (wordsL sg l.length) (vws l w r)).testBit ((wordsL sg l.length).idxOf v') with
      | false => rfl
      | true =>
        obtain ⟨v, hv, hlt⟩ := key.mp q
        have := z v hv v' (List.mem_singleton.mpr rfl)
        omega
  · rw [if_neg h, if_neg h, List.append_nil, Nat.and_zero]
    exact ⟨fun _ => hd, fun _ => rfl⟩
theorem and_nat (a b : Nat) : Builtin.bitAnd (a : Int) (b : Int) = ((a &&& b : Nat) : Int) := by
  unfold Builtin.bitAnd
  rw [decide_eq_true (Int.natCast_nonneg a), decide_eq_true (Int.natCast_nonneg b)]
  rfl
theorem or_nat (a b : Nat) : Builtin.bitOr (a : Int) (b : Int) = ((a ||| b : Nat) : Int) := by
  unfold Builtin.bitOr Builtin.bitAnd Builtin.bitNot
  rw [decide_eq_false (show ¬ (0 : Int) ≤ -(a : Int) - 1 by omega), decide_eq_false (show ¬ (0 : Int) ≤ -(b : Int) - 1 by omega)]
  show -(-((((-(-(a : Int) - 1) - 1).toNat ||| (-(-(b : Int) - 1) - 1).toNat : Nat)) : Int) - 1) - 1 = _
  rw [show (-(-(a : Int) - 1) - 1).toNat = a by omega, show (-(-(b : Int) - 1) - 1).toNat = b by omega]
  omega
/-- the heap's pairs of rows and what they bar -/
inductive Prs (B : List Nat → Nat) (H : Hp) : List V → List (List Nat) → Prop
  | nil : Prs B H [] []
  | snoc {xs : List V} {rs : List (List Nat)} {t : Addr} {r : List Nat} : Prs B H xs rs → H t = some (.tup [.str (txt r), .int ((B r : Nat) : Int)]) → Prs B H (xs ++ [.ref t]) (rs ++ [r])
theorem Prs.ex {B : List Nat → Nat} {H H1 : Hp} {xs : List V} {rs : List (List Nat)} (h : Prs B H xs rs) (e : Ex H H1) : Prs B H1 xs rs := by
  induction h with
  | nil => exact .nil
  | snoc _ ht ih => exact .snoc ih (e _ _ ht)
theorem Prs.len {B : List Nat → Nat} {H : Hp} {xs : List V} {rs : List (List Nat)} (h : Prs B H xs rs) : xs.length = rs.length := by
  induction h with
  | nil => rfl
  | snoc _ _ ih => rw [List.length_append, List.length_append, ih]; rfl
theorem Prs.get {B : List Nat → Nat} {H : Hp} {xs : List V} {rs : List (List Nat)} (h : Prs B H xs rs) {i : Nat} {x : V} (hx : xs[i]? = some x) :
    ∃ t, rs[i]? = some (rs.getD i []) ∧ x = .ref t ∧ H t = some (.tup [.str (txt (rs.getD i [])), .int ((B (rs.getD i []) : Nat) : Int)]) := by
  induction h with
  | nil => cases hx
  | @snoc xs rs t r h ht ih =>
    have e := h.len
    rcases Nat.lt_or_ge i xs.length with hi | hi
    · rw [List.getElem?_append_left hi] at hx
      obtain ⟨t', h1, h2, h3⟩ := ih hx
      have g : (rs ++ [r]).getD i [] = rs.getD i [] := by
        rw [List.getD_eq_getElem?_getD, List.getD_eq_getElem?_getD, List.getElem?_append_left (by omega)]
      rw [g, List.getElem?_append_left (by omega)]
      exact ⟨t', h1, h2, h3⟩
    · have hi2 := (List.getElem?_eq_some_iff.mp hx).1
      rw [List.length_append, List.length_singleton] at hi2
      obtain rfl : i = xs.length := by omega
      rw [List.getElem?_append_right (Nat.le_refl _), Nat.sub_self] at hx
      have g : (rs ++ [r]).getD xs.length [] = r := by
        rw [List.getD_eq_getElem?_getD, List.getElem?_append_right (by omega), e, Nat.sub_self]
        rfl
      rw [g, List.getElem?_append_right (by omega), e, Nat.sub_self]
      exact ⟨t, rfl, (Option.some.inj hx).symm, ht⟩
end K24
namespace K24
open PySem PySem.Spec PyProof.Rows L2 Evl Qt
def spWords : Sp := fun vs H Q _ => ∃ (z : Str) (n : Nat), vs = [.str z, .int (n : Int)] ∧ 1 ≤ z.length ∧ z.length ≤ 4 ∧ n ≤ 12 ∧ z.length ^ n ≤ 1100 ∧ RetL (tS (wordsL z.cps.toList n)) H Q
theorem txt_snoc (a : List Nat) (c : Nat) : txt a ++ (⟨#[c]⟩ : Str) = txt (a ++ [c]) := by
  apply str_ext
  rw [str_app, txt_l, txt_l]
theorem words_step (sg : List Nat) (n : Nat) : given2 (fun _ => sg.length) (fun i m => V.str (txt ((wordsL sg n).getD i []) ++ (⟨#[sg.getD m 0]⟩ : Str))) (wordsL sg n).length = tS (wordsL sg (n + 1)) := by
  unfold given2 tS
  conv => rhs; unfold wordsL
  rw [List.map_flatMap]
  rw [← range_flat_getD (wordsL sg n) []]
  refine congrArg (fun f => List.flatMap f (List.range (wordsL sg n).length)) (funext fun i => ?_)
  rw [List.map_map, ← range_map_getD sg 0]
  refine List.map_congr_left fun m _ => ?_
  show V.str _ = V.str _
  rw [txt_snoc]
theorem nil_txt : PySem.Str.ofString "" = txt [] := by decide +kernel
def ksT (u : List Nat) : Key := Sum.inr (txt u)
theorem ks_inj {u v : List Nat} (h : ksT u = ksT v) : u = v := by
  unfold ksT at h
  injection h with h
  exact txt_inj h
/-- the dict of windows: with each the bit of its view and what it bars -/
def BitsTo (far : Nat) (sg l : List Nat) (w : Nat) (kvs : List (Key × V)) (H : Hp) : Prop :=
  ∀ u : List Nat, (u ∈ wordsL sg w → ∃ t, valV kvs (ksT u) = some (.ref t) ∧ H t = some (.tup [.int ((2 ^ (wordsL sg l.length).idxOf (vw l u 0) : Nat) : Int), .int ((barN far (wordsL sg l.length) (vw l u 0) : Nat) : Int)])) ∧ (u ∉ wordsL sg w → valV kvs (ksT u) = none)
theorem BitsTo.ex {far : Nat} {sg l : List Nat} {w : Nat} {kvs : List (Key × V)} {H H1 : Hp} (h : BitsTo far sg l w kvs H) (e : Ex H H1) : BitsTo far sg l w kvs H1 := fun u =>
  ⟨fun hu => by
    obtain ⟨t, a, b⟩ := (h u).1 hu
    exact ⟨t, a, e _ _ b⟩, (h u).2⟩
def spNearBits : Sp := fun vs H Q _ => ∃ (d : Addr) (od : Obj) (VS : List (List Nat)) (v : List Nat) (far k : Nat), vs = [.ref d, .str (txt v), .int (far : Int)] ∧ H d = some (.frz od (.dK ((List.range VS.length).map fun i => (ksT (VS.getD i []), V.int ((2 ^ i : Nat) : Int))))) ∧ VS.length ≤ 2000 ∧ k ≤ 1000 ∧
  (∀ u ∈ VS, u.length = k ∧ ∀ c ∈ u, c < 128 ∧ c ≠ 63) ∧ VS.Nodup ∧ v.length = k ∧ RetV (.int ((barN far VS v : Nat) : Int)) H Q
def spBits (K : PySem.W.Frag) : Sp := fun vs H Q _ => ∃ (m z : Str) (far : Nat), vs = [.str m, .str z, .int (far : Int)] ∧ isMask m = true ∧ 1 ≤ z.length ∧ z.length ≤ 4 ∧ z.length ^ m.length ≤ 1100 ∧ z.cps.toList.Nodup ∧ (∀ c ∈ z.cps.toList, c < 128 ∧ c ≠ 63) ∧
  ∀ d kvs H', Ex H H' → H d = none → H' d = some (.dK kvs) → BitsTo far z.cps.toList (openM m) m.length kvs H' → Q (.ref d) H'
theorem view_txt (u l : List Nat) : viewM (txt u) l 0 = txt (vw l u 0) := by
  unfold viewM vw
  rw [txt_l]
theorem miss_dif {v u : List Nat} (h : ∀ c ∈ u, c ≠ 63) (hl : u.length = v.length) : missM (txt v) (txt u) = dif v u := by
  unfold missM dif
  rw [txt_len]
  congr 1
  refine List.filter_congr fun i hi => ?_
  have hi' := List.mem_range.mp hi
  unfold missB
  rw [txt_l, txt_l]
  have : u.getD i 0 ≠ 63 := h _ (by
    rw [List.getD_eq_getElem?_getD, List.getElem?_eq_getElem (by omega)]
    exact List.getElem_mem _)
  rw [decide_eq_false this]
  rfl
theorem sum_bar (p : Nat → Bool) : ∀ n : Nat, (((List.range n).filter p).map fun i => ((2 ^ i : Nat) : Int)).sum = ((barK p n : Nat) : Int)
  | 0 => rfl
  | n + 1 => by
    rw [List.range_succ, List.filter_append, List.map_append, List.sum_append, sum_bar p n]
    show _ = ((barK p n + (if p n = true then 2 ^ n else 0) : Nat) : Int)
    by_cases h : p n = true
    · rw [List.filter_cons_of_pos h, if_pos h]
      simp
    · rw [List.filter_cons_of_neg h, if_neg h]
      simp
theorem nd_ne {L : List (List Nat)} (hL : L.Nodup) {a b : Nat} (hab : a < b) (hb : b < L.length) : ksT (L.getD a []) ≠ ksT (L.getD b []) := fun e => by
  have := ks_inj e
  rw [List.getD_eq_getElem?_getD, List.getD_eq_getElem?_getD, List.getElem?_eq_getElem (by omega), List.getElem?_eq_getElem hb] at this
  exact List.pairwise_iff_getElem.mp hL a b (by omega) hb hab this
theorem kvs_at {VS : List (List Nat)} (hd : VS.Nodup) {i : Nat} (hi : i < VS.length) : valV ((List.range VS.length).map fun i => (ksT (VS.getD i []), V.int ((2 ^ i : Nat) : Int))) (ksT (VS.getD i [])) = some (V.int ((2 ^ i : Nat) : Int)) := by
  have D : DRel (fun i v (_ : Hp) => v = V.int ((2 ^ i : Nat) : Int)) (fun i => ksT (VS.getD i [])) VS.length ((List.range VS.length).map fun i => (ksT (VS.getD i []), V.int ((2 ^ i : Nat) : Int))) (fun _ => none) := ⟨by simp, fun i hi => ⟨_, by simp [hi], rfl⟩⟩
  obtain ⟨v, h1, h2⟩ := D.at (fun a b hab hb => nd_ne hd hab hb) i hi
  rw [h1, h2]
theorem kvs_idx {VS : List (List Nat)} (hd : VS.Nodup) {v : List Nat} (hv : v ∈ VS) : valV ((List.range VS.length).map fun i => (ksT (VS.getD i []), V.int ((2 ^ i : Nat) : Int))) (ksT v) = some (V.int ((2 ^ VS.idxOf v : Nat) : Int)) := by
  have hi := List.idxOf_lt_length_iff.mpr hv
  have z := kvs_at hd hi
  rw [List.getD_eq_getElem?_getD, List.getElem?_eq_getElem hi] at z
  have e : (some VS[VS.idxOf v]).getD [] = v := List.getElem_idxOf hi
  rw [e] at z
  exact z
section
variable {P : Program} {w : World} {K : PySem.W.Frag} {mg : Str → Option Value} {base : Heap} {CM CV CG fG CK fK a_SMALL_WIDTH a_SMALL_SEEN : Addr}
theorem ok_words (e : Ent K mg "words" s_words p_words) (T : Top K mg CM CV CG fG CK fK a_SMALL_WIDTH a_SMALL_SEEN) : Cal P w K mg base CX0 1 "words" p_words spWords := by
  obtain ⟨f, fd, F, m_, b_⟩ := e
  refine ⟨f, fd, F.ok sc_words (fun vs H Q E h => ?_) (fun cdv A outer s H vs Q E hr h => ?_), m_, F.kp, b_⟩
  · obtain ⟨z, n, rfl, _⟩ := h
    rfl
  · obtain ⟨z, n, rfl, h1, h2, h3, h4, q⟩ := h
    refine ⟨_, (pss_cons (ps_set (i := 2) sc_words.nd rfl (Or.inl rfl) (pe_lst (pa_cons pe_str pa_nil)))
      (pss_cons (ps_for PassesOwn.never rfl (pi_range1 (by rfl) T.m_range (pa_cons (pv 1) pa_nil)) (pg_name (i := 3) sc_words.nd rfl (Or.inl rfl)) (pss_one (ps_setLc2 (i := 2) (own := [("word", 4), ("sign", 5)]) (vs1 := [5]) (g := (gName 4)) (g1 := (gName 5)) (by rfl) sc_words.nd rfl rfl (sw_true rfl rfl rfl (by decide +kernel)) (pi_list (pv 2)) (blkOk_by (own := [("word", 4), ("sign", 5)]) (N := n_words) (sc := (defScope s_words)) (by decide +kernel)) (by decide) (fun _ _ _ _ _ => pg_name (i := 4) sc_words.nd rfl (Or.inl rfl)) (fun _ _ _ _ _ => pts_nil) (fun _ _ _ _ _ => by exact (pi_str (pv 0))) (fun _ _ _ _ _ => pg_name (i := 5) sc_words.nd rfl (Or.inl rfl)) (fun _ _ _ _ _ => pts_nil) (fun _ _ _ _ _ => (pe_op op_add_str (pv 4) (pv 5))))))
      (pss_one (ps_ret (pv 2))))), ?_⟩
    refine q_asgL (xs := tS (wordsL z.cps.toList 0)) (el_is (el_lst (ea_cons ev_c ea_nil) (by simp)) (by rw [nil_txt]; rfl)) fun p H1 np e1 hp => ?_
    refine q_forR1 (n := (n : Int)) (j := 3) (ea_cons (ev_var rfl) ea_nil) (by omega) (fun i σ' H' => Ex H H' ∧ ∃ (p : Addr) (x3 x4 x5 : Option V), H p = none ∧ H' p = some (.lst (tS (wordsL z.cps.toList i))) ∧ σ' = [some (.str z), some (.int (n : Int)), some (.ref p), x3, x4, x5])
      (fun H2 e2 => ⟨e1.trans e2, p, _, _, _, np, e2 _ _ hp, rfl⟩) (fun i σ' H' hi hp' => ?_) (fun σ' H' hp' => ?_)
    · obtain ⟨eH, p, x3, x4, x5, np, hp, rfl⟩ := hp'
      have hw : (wordsL z.cps.toList i).length ≤ 1100 := by
        rw [words_len, len_l]
        exact Nat.le_trans (Nat.pow_le_pow_right h1 (by omega)) h4
      refine s_asgL (xs := tS (wordsL z.cps.toList (i + 1))) (el_is (el_lc2LS (xs := tS (wordsL z.cps.toList i)) (z := z) (fun a m => V.str (txt ((wordsL z.cps.toList i).getD a []) ++ (⟨#[z.cps.toList.getD m 0]⟩ : Str))) (ev_var rfl) (sq_of hp) (by rw [tS_len]; omega) (by omega) (fun _ => rfl) (fun _ _ => rfl)
        (fun a y H2 e2 hy => ev_var rfl) (fun a m y H2 e2 hy hm => ?_)) ?_) fun p' H2 np' e2 hp2 => ⟨eH.trans e2, p', _, _, _, fresh_back eH np', hp2, rfl⟩
      · obtain ⟨ha, rfl⟩ := tS_get hy
        refine ev_op (ev_var rfl) (ev_var rfl) (rv_addS ?_)
        have := (words_each (mem_getDL (d := []) ha)).1
        rw [txt_len]
        show _ + 1 ≤ _
        omega
      · rw [tS_len, ← len_l z]
        exact words_step _ _
    · obtain ⟨eH, p, x3, x4, x5, np, hp, rfl⟩ := hp'
      rw [Int.toNat_natCast] at hp
      exact s_ret (ev_var rfl) fun H2 e2 => q p H2 np (eH.trans e2) (e2 _ _ hp)
theorem ok_near_bits (e : Ent K mg "near_bits" s_near_bits p_near_bits) (T : Top K mg CM CV CG fG CK fK a_SMALL_WIDTH a_SMALL_SEEN) (c1 : Cal P w K mg base CX0 1 "others" p_others spOthers) : Cal P w K mg base CX0 2 "near_bits" p_near_bits spNearBits := by
  obtain ⟨f, fd, F, m_, b_⟩ := e
  obtain ⟨f_others, fd_others, G_others, m_others, k_others, b_others⟩ := c1
  refine ⟨f, fd, F.ok sc_near_bits (fun vs H Q E h => ?_) (fun cdv A outer s H vs Q E hr h => ?_), m_, F.kp, b_⟩
  · obtain ⟨d, od, VS, v, far, k, rfl, _⟩ := h
    rfl
  · obtain ⟨d, od, VS, v, far, k, rfl, hd, hz, hk, hu, hn, hv, q⟩ := h
    refine ⟨_, (pss_one (ps_ret (pe_callB (cr_sum rfl) (by rfl) T.m_sum (by decide +kernel) (pa_cons (pe_lc (own := [("other", 3)]) (g := gName 3) (by rfl) sc_near_bits.nd (pi_keys (pv 0)) (blkOk_by (own := [("other", 3)]) (N := n_near_bits) (sc := (defScope s_near_bits)) (by decide +kernel)) (fun _ _ _ _ _ => pg_name (i := 3) sc_near_bits.nd rfl (Or.inl rfl)) (fun _ _ _ _ _ => pts_one (pt_cmpR op_lt (pe_call G_others (hr.mono (by decide)) (by rfl) m_others k_others b_others .nil pass0 (pa_cons (pv 1) (pa_cons (pv 3) pa_nil))) (pv 2) (nomark _))) (fun _ _ _ _ _ => (pe_dget (Nat.lt_of_le_of_lt (Nat.add_le_add_left (by decide) _) hr.units) (pv 0) (pv 3) (fun _ _ => rfl)))) pa_nil)))), ?_⟩
    refine ⟨_, rfl, d, od, rfl, .inl ⟨_, hd, fun D nD => ?_⟩⟩
    refine lc_it (walk_keys (d := d) (o := od) (kvs := (List.range VS.length).map fun i => (ksT (VS.getD i []), V.int ((2 ^ i : Nat) : Int)))) (fun i H' => Ex H H' ∧ H' D = some (.lst ((((List.range i).filter fun i => decide (dif v (VS.getD i []) < far)).map fun i => ((2 ^ i : Nat) : Int)).map V.int))) ⟨Ex.new nD, upd_same⟩ (fun i H' _ p => p.1 _ _ hd) (fun i x G H' hi p y => ?_) (fun H' p => ?_)
    · obtain ⟨rfl, kk, w, hkv, rfl⟩ := y
      obtain ⟨p1, p2⟩ := p
      rw [List.length_map, List.length_range] at hi
      rw [List.getElem?_map, List.getElem?_range hi] at hkv
      have ee := Option.some.inj hkv
      have e1 : ksT (VS.getD i []) = kk := congrArg Prod.fst ee
      subst e1
      have hum : VS.getD i [] ∈ VS := mem_getDL hi
      obtain ⟨u1, u2⟩ := hu _ hum
      have hd' := p1 _ _ hd
      have ll : ((((List.range i).filter fun i => decide (dif v (VS.getD i []) < far)).map fun i => ((2 ^ i : Nat) : Int)).map V.int).length ≤ i := by
        rw [List.length_map, List.length_map]
        have z := List.length_filter_le (fun i => decide (dif v (VS.getD i []) < far)) (List.range i)
        rw [List.length_range] at z
        exact z
      refine ⟨rfl, ?_⟩
      refine et_test (b := decide (dif v (VS.getD i []) < far)) (ev_is (ev_op (ev_call (z := .int (dif v (VS.getD i []) : Int)) (ea_cons (ev_var rfl) (ea_cons (ev_var rfl) ea_nil)) fun G e Q q E => ⟨txt v, txt (VS.getD i []), rfl, by rw [txt_len, txt_len, u1, hv], by rw [txt_len]; omega, by rw [miss_dif (fun c hc => (u2 c hc).2) (by rw [u1, hv])]; exact q⟩) (ev_var rfl) rv_I0) (by congr 1; exact decide_eq_decide.mpr (by omega))) _ (Ex.refl _) _ fun H3 e3 => ?_
      by_cases hb : dif v (VS.getD i []) < far
      · rw [decide_eq_true hb]
        refine iteT ?_
        have hd3 := e3 _ _ hd'
        refine ⟨_, rfl, _, rfl, d, _, rfl, .inl ⟨_, ksT (VS.getD i []), .inr ⟨od, hd3⟩, rfl, (kvs_at hn hi).symm⟩, _, e3 _ _ p2, by rw [sizeLine_eq]; omega, Ex.mut (p1.trans e3) nD, ?_⟩
        rw [upd_same, List.range_succ, List.filter_append, List.filter_cons_of_pos (by exact decide_eq_true hb), List.map_append, List.map_append]
        rfl
      · rw [decide_eq_false hb]
        refine iteF ⟨p1.trans e3, ?_⟩
        rw [List.range_succ, List.filter_append, List.filter_cons_of_neg (by rw [decide_eq_false hb]; exact Bool.false_ne_true), List.filter_nil, List.append_nil]
        exact e3 _ _ p2
    · obtain ⟨p1, p2⟩ := p
      rw [List.length_map, List.length_range] at p2
      refine ⟨D, _, rfl, sq_of p2, ?_⟩
      rw [sum_bar]
      exact q H' p1
theorem ok_bits (e : Ent K mg "window_bits" s_window_bits p_window_bits) (T : Top K mg CM CV CG fG CK fK a_SMALL_WIDTH a_SMALL_SEEN) (c1 : Cal P w K mg base CX0 4 "seen" p_seen (spSeen0 K)) (c2 : Cal P w K mg base CX0 1 "words" p_words spWords) (c3 : Cal P w K mg base CX0 1 "view_at" p_view_at (spViewAt K))
    (c4 : Cal P w K mg base CX0 2 "near_bits" p_near_bits spNearBits) : Cal P w K mg base CX0 5 "window_bits" p_window_bits (spBits K) := by
  obtain ⟨f, fd, F, m_, b_⟩ := e
  obtain ⟨f_seen, fd_seen, G_seen, m_seen, k_seen, b_seen⟩ := c1
  obtain ⟨f_words, fd_words, G_words, m_words, k_words, b_words⟩ := c2
  obtain ⟨f_view_at, fd_view_at, G_view_at, m_view_at, k_view_at, b_view_at⟩ := c3
  obtain ⟨f_near_bits, fd_near_bits, G_near_bits, m_near_bits, k_near_bits, b_near_bits⟩ := c4
  refine ⟨f, fd, F.ok sc_window_bits (fun vs H Q E h => ?_) (fun cdv A outer s H vs Q E hr h => ?_), m_, F.kp, b_⟩
  · obtain ⟨m, z, far, rfl, _⟩ := h
    rfl
  · obtain ⟨m, z, far, rfl, hm, h1, h4, hB, hzn, hzl, q⟩ := h
    have l1 := isMask_len hm
    have l2 := open_len m
    refine ⟨_, (pss_cons (ps_set (i := 3) sc_window_bits.nd rfl (Or.inr rfl) (pe_call G_seen (hr.mono (by decide)) (by rfl) m_seen k_seen b_seen .nil pass0 (pa_cons (pv 0) pa_nil)))
      (pss_cons (ps_set (i := 4) sc_window_bits.nd rfl (Or.inr rfl) (pe_dc (own := [("at", 7), ("view", 8)]) (g := (gTup K 2 (gCons (gName 7) (gCons (gName 8) gNil)))) (by rfl) sc_window_bits.nd (pi_enum (by rfl) T.m_enumerate (pa_cons (pe_call G_words (hr.mono (by decide)) (by rfl) m_words k_words b_words .nil pass0 (pa_cons (pv 1) (pa_cons (pe_callB call_len (by rfl) T.m_len (by decide +kernel) (pa_cons (pv 3) pa_nil)) pa_nil))) pa_nil)) (blkOk_by (own := [("at", 7), ("view", 8)]) (N := n_window_bits) (sc := (defScope s_window_bits)) (by decide +kernel)) (fun _ _ _ _ _ => by exact (pg_tup rfl (pgs_cons (by exact pg_name (i := 7) sc_window_bits.nd rfl (Or.inl rfl)) (pgs_cons (by exact pg_name (i := 8) sc_window_bits.nd rfl (Or.inl rfl)) pgs_nil)))) (fun _ _ _ _ _ => pts_nil) (fun _ _ _ _ _ => (pv 8)) (fun _ _ _ _ _ => (pe_op op_shl pe_int (pv 7)))))
      (pss_cons (ps_set (i := 5) sc_window_bits.nd rfl (Or.inr rfl) (pe_lock (pe_dc (own := [("view", 8)]) (g := (gName 8)) (by rfl) sc_window_bits.nd (pi_keys (pv 4)) (blkOk_by (own := [("view", 8)]) (N := n_window_bits) (sc := (defScope s_window_bits)) (by decide +kernel)) (fun _ _ _ _ _ => pg_name (i := 8) sc_window_bits.nd rfl (Or.inl rfl)) (fun _ _ _ _ _ => pts_nil) (fun _ _ _ _ _ => (pv 8)) (fun _ _ _ _ _ => (pe_call G_near_bits (hr.mono (by decide)) (by rfl) m_near_bits k_near_bits b_near_bits .nil pass0 (pa_cons (pv 4) (pa_cons (pv 8) (pa_cons (pv 2) pa_nil))))))))
      (pss_cons (ps_set (i := 6) sc_window_bits.nd rfl (Or.inr rfl) (pe_dc (own := [("window", 9)]) (g := (gName 9)) (by rfl) sc_window_bits.nd (pi_list (pe_call G_words (hr.mono (by decide)) (by rfl) m_words k_words b_words .nil pass0 (pa_cons (pv 1) (pa_cons (pe_callB call_len_str (by rfl) T.m_len (by decide +kernel) (pa_cons (pv 0) pa_nil)) pa_nil)))) (blkOk_by (own := [("window", 9)]) (N := n_window_bits) (sc := (defScope s_window_bits)) (by decide +kernel)) (fun _ _ _ _ _ => pg_name (i := 9) sc_window_bits.nd rfl (Or.inl rfl)) (fun _ _ _ _ _ => pts_nil) (fun _ _ _ _ _ => (pv 9)) (fun _ _ _ _ _ => (pe_call G_view_at (hr.mono (by decide)) (by rfl) m_view_at k_view_at b_view_at .nil pass0 (pa_cons (pv 9) (pa_cons (pv 3) (pa_cons pe_int pa_nil)))))))
      (pss_one (ps_ret (pe_lock (pe_dc (own := [("window", 9)]) (g := (gName 9)) (by rfl) sc_window_bits.nd (pi_keys (pv 6)) (blkOk_by (own := [("window", 9)]) (N := n_window_bits) (sc := (defScope s_window_bits)) (by decide +kernel)) (fun _ _ _ _ _ => pg_name (i := 9) sc_window_bits.nd rfl (Or.inl rfl)) (fun _ _ _ _ _ => pts_nil) (fun _ _ _ _ _ => (pv 9)) (fun _ _ _ _ _ => (pe_tup (pa_cons (pe_dget (Nat.lt_of_le_of_lt (Nat.add_le_add_left (by decide) _) hr.units) (pv 4) (pe_dget (Nat.lt_of_le_of_lt (Nat.add_le_add_left (by decide) _) hr.units) (pv 6) (pv 9) (fun _ _ => rfl)) (fun _ _ => rfl)) (pa_cons (pe_dget (Nat.lt_of_le_of_lt (Nat.add_le_add_left (by decide) _) hr.units) (pv 5) (pe_dget (Nat.lt_of_le_of_lt (Nat.add_le_add_left (by decide) _) hr.units) (pv 6) (pv 9) (fun _ _ => rfl)) (fun _ _ => rfl)) pa_nil)))))))))))), ?_⟩
    refine q_asgL (xs := natsV (openM m)) (el_call (ea_cons (ev_var rfl) ea_nil) fun G e Q q E => ⟨m, rfl, hm, q⟩) fun a H1 na e1 ha => ?_
    obtain ⟨VS, hVS⟩ : ∃ VS, wordsL z.cps.toList (openM m).length = VS := ⟨_, rfl⟩
    obtain ⟨us, hus⟩ : ∃ us, wordsL z.cps.toList m.length = us := ⟨_, rfl⟩
    have vl : VS.length ≤ 1100 := by
      rw [← hVS, words_len, len_l]
      exact Nat.le_trans (Nat.pow_le_pow_right h1 l2) hB
    have ul : us.length ≤ 1100 := by
      rw [← hus, words_len, len_l]
      exact hB
    have vn : VS.Nodup := by rw [← hVS]; exact words_nodup hzn _
    have un : us.Nodup := by rw [← hus]; exact words_nodup hzn _
    have ve : ∀ u ∈ VS, u.length = (openM m).length ∧ ∀ c ∈ u, c < 128 ∧ c ≠ 63 := fun u hu => by
      rw [← hVS] at hu
      obtain ⟨a, b⟩ := words_each hu
      exact ⟨a, fun c hc => hzl c (b c hc)⟩
    have ue : ∀ u ∈ us, u.length = m.length ∧ (∀ c ∈ u, c ∈ z.cps.toList) := fun u hu => by
      rw [← hus] at hu
      exact words_each hu
    have uv : ∀ u ∈ us, vw (openM m) u 0 ∈ VS := fun u hu => by
      rw [← hVS]
      obtain ⟨a, b⟩ := ue u hu
      exact vw_in (fun p hp => open_lt hp) b (by omega)
    have kne : ∀ (L : List (List Nat)), L.Nodup → ∀ a b, a < b → b < L.length → ksT (L.getD a []) ≠ ksT (L.getD b []) := fun L hL a b hab hb => nd_ne hL hab hb
    dsimp only [tSeq]
    -- bits
    refine el_dcE (K := K) (xs := tS VS) (fun i => ksT (VS.getD i [])) (fun i => V.int ((2 ^ i : Nat) : Int)) (el_call (vs := [.str z, .int ((openM m).length : Int)]) (ea_cons (ev_var rfl) (ea_cons (ev_is (ev_cb (ea_cons (ev_var rfl) ea_nil) (rc_lenL (sq_of ha))) (by rw [natsV_len])) ea_nil)) fun G e Q q E => ⟨z, (openM m).length, rfl, h1, h4, by omega, Nat.le_trans (Nat.pow_le_pow_right h1 l2) hB, by rw [hVS]; exact q⟩) (by rw [tS_len]; omega) (fun _ _ => rfl)
      (fun a b hab hb => kne VS vn a b hab (by rw [tS_len] at hb; exact hb)) (fun i y G e hy => by obtain ⟨hi, rfl⟩ := tS_get hy; exact ev_var rfl) (fun i y G e hy => ?_) _ (Ex.refl _) _ fun d1 H2 nd1 e2 hd1 => ?_
    · obtain ⟨hi, rfl⟩ := tS_get hy
      refine ev_is (w := V.int ((2 ^ i : Nat) : Int)) (ev_op ev_c (ev_var rfl) (rv_I (show (0 : Int) ≤ (i : Int) ∧ _ from ⟨by omega, by omega, by decide⟩))) ?_
      congr 1
      rw [Int.toNat_natCast, Int.one_mul]
      exact (Int.natCast_pow 2 i).symm
    rw [tS_len] at hd1
    dsimp only [gName, tSeq]
    -- barred
    refine el_dcK (K := K) (R := fun i v _ => v = V.int ((barN far VS (VS.getD i []) : Nat) : Int)) (kf := fun i => ksT (VS.getD i [])) (kvs := (List.range VS.length).map fun i => (ksT (VS.getD i []), V.int ((2 ^ i : Nat) : Int))) (fun H1 od => ev_var rfl) hd1 (by rw [List.length_map, List.length_range]; omega) (fun i hi => ?_) (fun a b hab hb => kne VS vn a b hab (by simpa using hb)) (fun _ => rfl) (fun _ => rfl) (fun i v H1 H2 x _ _ h => h) (fun i v G hv hG Q q => ?_) (Ex.refl _) fun d2 kv2 H3 nd2 e3 hd2 D2 => ?_
    · rw [List.length_map, List.length_range] at hi
      exact ⟨V.int ((2 ^ i : Nat) : Int), by rw [List.getElem?_map, List.getElem?_range hi]; rfl⟩
    · have hi : i < VS.length := by
        have := (List.getElem?_eq_some_iff.mp hv).1
        simpa using this
      obtain ⟨H0, od, _, _, hfz⟩ := hG
      exact ⟨_, rfl, _, rfl, _, rfl, d1, od, VS, VS.getD i [], far, (openM m).length, rfl, hfz, by omega, by omega, ve, vn, (ve _ (mem_getDL hi)).1, fun H2 e2 => q _ H2 e2 rfl⟩
    rw [List.length_map, List.length_range] at D2
    dsimp only [gName, tSeq]
    have ha3 := e3 _ _ (e2 _ _ ha)
    -- shown
    refine el_dcL (K := K) (xs := tS us) (fun _ => true) (fun i => ksT (us.getD i [])) (fun i => V.str (txt (vw (openM m) (us.getD i []) 0))) (el_call (ea_cons (ev_var rfl) (ea_cons (ev_cb (ea_cons (ev_var rfl) ea_nil) (rc_lenS (by omega))) ea_nil)) fun G e Q q E => ⟨z, m.length, rfl, h1, h4, by omega, hB, by rw [hus]; exact q⟩) (by rw [tS_len]; omega) (fun _ => rfl)
      (fun a b hab hb => kne us un a b hab (by rw [tS_len] at hb; exact hb)) (fun i x G e hx => et_yes) (fun i x G e hx _ => by obtain ⟨hi, rfl⟩ := tS_get hx; exact ev_var rfl) (fun i x G e hx _ => ?_) _ (Ex.refl _) _ fun d3 H4 nd3 e4 hd3 => ?_
    · obtain ⟨hi, rfl⟩ := tS_get hx
      obtain ⟨a1, a2⟩ := ue _ (mem_getDL (d := []) hi)
      exact ev_call (ea_cons (ev_var rfl) (ea_cons (ev_var rfl) (ea_cons ev_c ea_nil))) fun G2 e2 Q q E => ⟨txt (us.getD i []), a, openM m, 0, rfl, sq_of ((e.trans e2) _ _ ha3), fun p hp => by have := open_lt hp; rw [txt_len]; omega, by omega, by rw [txt_len]; omega, by rw [view_txt]; exact q⟩
    rw [tS_len, List.filter_eq_self.mpr (fun _ _ => rfl)] at hd3
    dsimp only [gName, tSeq]
    have hd1' := e4 _ _ (e3 _ _ hd1)
    have hd2' := e4 _ _ hd2
    have d13 : d1 ≠ d3 := fun e => by rw [← e, e3 _ _ hd1] at nd3; cases nd3
    have d23 : d2 ≠ d3 := fun e => by rw [← e, hd2] at nd3; cases nd3
    have D3 : DRel (fun i v (_ : Hp) => v = V.str (txt (vw (openM m) (us.getD i []) 0))) (fun i => ksT (us.getD i [])) us.length ((List.range us.length).map fun i => (ksT (us.getD i []), V.str (txt (vw (openM m) (us.getD i []) 0)))) (fun _ => none) := ⟨by simp, fun i hi => ⟨_, by simp [hi], rfl⟩⟩
    -- the pairs
    refine el_dcK (K := K) (R := fun i v H' => ∃ t, v = .ref t ∧ H' t = some (.tup [.int ((2 ^ VS.idxOf (vw (openM m) (us.getD i []) 0) : Nat) : Int), .int ((barN far VS (vw (openM m) (us.getD i []) 0) : Nat) : Int)])) (kf := fun i => ksT (us.getD i [])) (kvs := (List.range us.length).map fun i => (ksT (us.getD i []), V.str (txt (vw (openM m) (us.getD i []) 0)))) (fun H1 od => ev_var rfl) hd3 (by rw [List.length_map, List.length_range]; omega) (fun i hi => ?_) (fun a b hab hb => kne us un a b hab (by simpa using hb)) (fun _ => rfl) (fun _ => rfl) (fun i v G1 G2 x hx hk h => ?_) (fun i v G hv hG Q q => ?_) (Ex.refl _) fun d4 kv4 H5 nd4 e5 hd4 D4 => ?_
    · rw [List.length_map, List.length_range] at hi
      exact ⟨V.str (txt (vw (openM m) (us.getD i []) 0)), by rw [List.getElem?_map, List.getElem?_range hi]; rfl⟩
    · obtain ⟨t, rfl, ht⟩ := h
      refine ⟨t, rfl, hk t _ (fun z => ?_) ht⟩
      obtain ⟨kv, od, hx | hx⟩ := hx
      · rw [← z, ht] at hx; cases hx
      · rw [← z, ht] at hx; cases hx
    · have hi : i < us.length := by
        have := (List.getElem?_eq_some_iff.mp hv).1
        simpa using this
      obtain ⟨H0, od, e0, eG, hfz⟩ := hG
      have z1 : G d1 = some (.dK ((List.range VS.length).map fun i => (ksT (VS.getD i []), V.int ((2 ^ i : Nat) : Int)))) := eG _ _ (by rw [upd_ne d13]; exact e0 _ _ hd1')
      have z2 : G d2 = some (.dK kv2) := eG _ _ (by rw [upd_ne d23]; exact e0 _ _ hd2')
      obtain ⟨w3, w4, rfl⟩ := D3.at (fun a b hab hb => kne us un a b hab hb) i hi
      have hin := uv _ (mem_getDL (d := []) hi)
      have hix := List.idxOf_lt_length_iff.mpr hin
      obtain ⟨w5, w6, w7⟩ := D2.at (fun a b hab hb => kne VS vn a b hab hb) _ hix
      have eg : VS.getD (VS.idxOf (vw (openM m) (us.getD i []) 0)) [] = vw (openM m) (us.getD i []) 0 := by
        rw [List.getD_eq_getElem?_getD, List.getElem?_eq_getElem hix]
        exact List.getElem_idxOf hix
      rw [eg] at w6 w7
      have k3 : DGet G d3 (kV (ksT (us.getD i []))) (some (V.str (txt (vw (openM m) (us.getD i []) 0)))) := .inl ⟨_, ksT (us.getD i []), .inr ⟨od, hfz⟩, rfl, w4.symm⟩
      refine ⟨_, rfl, _, rfl, _, rfl, d3, _, rfl, k3, d1, _, rfl, .inl ⟨_, ksT (vw (openM m) (us.getD i []) 0), .inl z1, rfl, (kvs_idx vn hin).symm⟩, _, rfl, _, rfl, _, rfl, d3, _, rfl, k3, d2, _, rfl, .inl ⟨kv2, ksT (vw (openM m) (us.getD i []) 0), .inl z2, rfl, w6.symm⟩, by show 2 ≤ sizeLine; decide, fun t nt => ?_⟩
      rw [w7]
      exact q (.ref t) _ (Ex.new nt) ⟨t, rfl, upd_same⟩
    · rw [List.length_map, List.length_range] at D4
      have eA := (((e1.trans e2).trans e3).trans e4).trans e5
      refine q d4 kv4 H5 eA (fresh_back (((e1.trans e2).trans e3).trans e4) nd4) hd4 fun u => ⟨fun hu => ?_, fun hu => ?_⟩
      · rw [hus] at hu
        obtain ⟨i, hi, rfl⟩ := List.getElem_of_mem hu
        obtain ⟨v, hv, t, rfl, ht⟩ := D4.at (fun a b hab hb => kne us un a b hab hb) i hi
        rw [List.getD_eq_getElem?_getD, List.getElem?_eq_getElem hi] at hv ht
        rw [hVS]
        exact ⟨t, hv, ht⟩
      · rw [hus] at hu
        exact D4.new fun a ha e => hu (by rw [← ks_inj e]; exact mem_getDL ha)
end
end K24
namespace K24
open PySem PySem.Spec PyProof.Rows L2 Evl Qt
theorem ev_fld {K : PySem.W.Frag} {te : TE} {σ : L2.St} {H : Hp} {x C dx : Addr} {fs : List (Str × V)} {v : V} {f : Str} (h : Ev te σ H (.ref x)) (hx : H x = some (.ins C dx fs)) (c : Cls K C) (n : NoAttr K C f) (hf : fs.lookup f = some v) : Ev (tFld K te f) σ H v :=
  fun H1 e Q q => h H1 e _ fun H2 e2 => ⟨x, C, dx, fs, v, rfl, (e.trans e2) _ _ hx, c, n, hf, q H2 e2⟩
theorem ev_slS {te : TE} {tl th : TO} {σ : L2.St} {H : Hp} {z : Str} {lo hi : Option Int} (h : Ev te σ H (.str z)) (h1 : EvO tl σ H lo) (h2 : EvO th σ H hi) (hz : z.length ≤ 100000) : Ev (tSl rSlS te tl th) σ H (.str (cutS z lo hi)) :=
  fun H1 e Q q => h H1 e _ fun H2 e2 => h1 H2 (e.trans e2) _ fun H3 e3 => h2 H3 ((e.trans e2).trans e3) _ fun H4 e4 => ⟨z, rfl, sz_of hz, q H4 ((e2.trans e3).trans e4)⟩
theorem s_forS {te : TE} {tu : TS} {D : Ends} {σ : L2.St} {H : Hp} {z : Str} {j : Nat} (h : Ev te σ H (.str z)) (Pv : Nat → L2.St → Hp → Prop) (h0 : ∀ H1, Ex H H1 → Pv 0 σ H1)
    (hs : ∀ i σ' H', i < z.length → Pv i σ' H' → tu { D with nx := Pv (i + 1), ct := Pv (i + 1), bk := D.nx } (σ'.set j (some (sg z i))) H') (hd : ∀ σ' H', Pv z.length σ' H' → D.nx σ' H') : tFor (iStr te) (gName j) tu D σ H :=
  h H (Ex.refl H) _ fun H1 e => ⟨z, rfl, for_it (walk_str (z := z)) Pv (h0 H1 e) (fun _ _ _ _ _ => trivial) (fun i x σ' H2 H3 hi p y => by
    obtain ⟨rfl, c, hc, rfl⟩ := y
    rw [sg_of hc]
    exact hs i σ' _ hi p) hd⟩
theorem cut_lo {z : Str} {k : Nat} (h : k ≤ z.length) : (cutS z none (some (k : Int))).cps.toList = z.cps.toList.take k := by
  unfold cutS
  rw [HT.sIx_none, HT.sIx_nat, List.toList_toArray, List.drop_zero, Nat.min_eq_left h, Nat.sub_zero]
theorem cut_neg {u : List Nat} {k : Nat} (h : 1 ≤ k) : cutS (txt u) (some (-(k : Int))) none = txt (u.drop (u.length - k)) := by
  apply str_ext
  unfold cutS
  rw [HT.sIx_none, List.toList_toArray, txt_l, txt_l, txt_len]
  have e : HT.sIx u.length 0 (some (-(k : Int))) = u.length - k := by
    show (if (-(k : Int)) < 0 then ((-(k : Int)) + (u.length : Int)).toNat else min (-(k : Int)).toNat u.length) = _
    rw [if_pos (by omega)]
    omega
  rw [e, List.take_of_length_le]
  rw [List.length_drop]
  omega
theorem cut_mid {u : List Nat} {i w : Nat} (h : i + w ≤ u.length) : cutS (txt u) (some (i : Int)) (some ((i : Int) + (w : Int))) = txt ((u.drop i).take w) := by
  apply str_ext
  unfold cutS
  rw [show (i : Int) + (w : Int) = ((i + w : Nat) : Int) from rfl, HT.sIx_nat, HT.sIx_nat, List.toList_toArray, txt_l, txt_l, txt_len, Nat.min_eq_left (show i ≤ u.length by omega), show min (i + w) u.length - i = w by omega]
theorem vw_cut {l r : List Nat} {w i : Nat} (hl : ∀ p ∈ l, p < w) : vw l ((r.drop i).take w) 0 = vw l r i := List.map_congr_left fun p hp => by
  have := hl p hp
  rw [List.getD_eq_getElem?_getD, List.getD_eq_getElem?_getD, Nat.zero_add, List.getElem?_take_of_lt this, List.getElem?_drop]
theorem bit_pair {far : Nat} {sg l u : List Nat} {w : Nat} {kvs : List (Key × V)} {H : Hp} {t0 : Addr} (hl : ∀ p ∈ l, p < w) (hb : BitsTo far sg l w kvs H) (hu : ∀ c ∈ u, c ∈ sg) (h0 : H t0 = some (.tup [.int 0, .int 0])) :
    ∃ t, (valV kvs (ksT (u.drop (u.length - w)))).getD (.ref t0) = .ref t ∧ H t = some (.tup [.int ((bt (wordsL sg l.length) l w u : Nat) : Int), .int ((nr far (wordsL sg l.length) l w u : Nat) : Int)]) := by
  unfold bt nr
  by_cases h : w ≤ u.length
  · obtain ⟨t, a, b⟩ := (hb (u.drop (u.length - w))).1 (words_mem _ _ (by rw [List.length_drop]; omega) fun c hc => hu c (List.mem_of_mem_drop hc))
    have e : vw l (u.drop (u.length - w)) 0 = vw l u (u.length - w) := List.map_congr_left fun p _ => by
      rw [List.getD_eq_getElem?_getD, List.getD_eq_getElem?_getD, Nat.zero_add, List.getElem?_drop]
    rw [e] at b
    rw [if_pos h, if_pos h, a]
    exact ⟨t, rfl, b⟩
  · rw [if_neg h, if_neg h, (hb (u.drop (u.length - w))).2]
    · exact ⟨t0, rfl, h0⟩
    · intro z
      have := (words_each z).1
      rw [List.length_drop] at this
      omega
def gF (z : Str) (w : Int) (d : Addr) : List (Str × V) := putF "bits" (.ref d) (putF "width" (.int w) (putF "signs" (.str z) []))
theorem nbs : ¬ (("signs" : Str) = "bits") := by decide +kernel
theorem nsw : ¬ (("signs" : Str) = "width") := by decide +kernel
theorem nbw : ¬ (("width" : Str) = "bits") := by decide +kernel
theorem gF_signs (z : Str) (w : Int) (d : Addr) : (gF z w d).lookup ("signs" : Str) = some (.str z) := by
  unfold gF
  rw [lookup_putF, if_neg nbs, lookup_putF, if_neg nsw, lookup_putF, if_pos rfl]
theorem gF_width (z : Str) (w : Int) (d : Addr) : (gF z w d).lookup ("width" : Str) = some (.int w) := by
  unfold gF
  rw [lookup_putF, if_neg nbw, lookup_putF, if_pos rfl]
theorem gF_bits (z : Str) (w : Int) (d : Addr) : (gF z w d).lookup ("bits" : Str) = some (.ref d) := by
  unfold gF
  rw [lookup_putF, if_pos rfl]
theorem gF_no (z : Str) (w : Int) (d : Addr) {f : Str} (h1 : ¬ f = "bits") (h2 : ¬ f = "width") (h3 : ¬ f = "signs") : (gF z w d).lookup f = none := by
  unfold gF
  rw [lookup_putF, if_neg h1, lookup_putF, if_neg h2, lookup_putF, if_neg h3]
  rfl
def GrowAt (CG : Addr) (H : Hp) (x : Addr) (m z : Str) (far : Nat) : Prop := ∃ dx d kvs, H x = some (.ins CG dx (gF z (m.length : Int) d)) ∧ H d = some (.dK kvs) ∧ BitsTo far z.cps.toList (openM m) m.length kvs H
def sgn (n : Nat) : Str := cutS (PySem.Str.ofString "abcd") none (some (n : Int))
theorem abcd_l : (PySem.Str.ofString "abcd").cps.toList = [97, 98, 99, 100] := by decide +kernel
theorem sgn_l {n : Nat} (h : n ≤ 4) : (sgn n).cps.toList = [97, 98, 99, 100].take n := by
  unfold sgn
  rw [cut_lo (by rw [show (PySem.Str.ofString "abcd").length = 4 by decide +kernel]; exact h), abcd_l]
theorem sgn_len {n : Nat} (h : n ≤ 4) : (sgn n).length = n := by
  rw [← len_l, sgn_l h, List.length_take]
  simp
  omega
theorem sgn_nodup {n : Nat} (h : n ≤ 4) : (sgn n).cps.toList.Nodup := by
  rw [sgn_l h]
  exact List.Sublist.nodup (List.take_sublist _ _) (by decide)
theorem sgn_sign {n : Nat} (h : n ≤ 4) : ∀ c ∈ (sgn n).cps.toList, c < 128 ∧ c ≠ 63 := fun c hc => by
  rw [sgn_l h] at hc
  have := List.mem_of_mem_take hc
  simp only [List.mem_cons, List.not_mem_nil, or_false] at this
  omega
/-- what the rows of a mask bar; their pairs -/
def barM (far : Nat) (m z : Str) (r : List Nat) : Nat := brs far (wordsL z.cps.toList (openM m).length) (vws (openM m) m.length r)
abbrev PrsM (far : Nat) (m z : Str) (H : Hp) (xs : List V) (rs : List (List Nat)) : Prop := Prs (barM far m z) H xs rs
theorem Prs.upd {B : List Nat → Nat} {H : Hp} {xs ys : List V} {rs : List (List Nat)} {D : Addr} {o : HO} (h : Prs B H xs rs) (hD : H D = some (.lst ys)) : Prs B (upd H D o) xs rs := by
  induction h with
  | nil => exact .nil
  | snoc _ ht ih => exact .snoc ih (by rw [upd_ne (ne_of ht hD (by intro z; cases z))]; exact ht)
def spGInit (CG : Addr) : Sp := fun vs H Q _ => ∃ (H0 : Hp) (x dx : Addr) (m : Str) (n far : Nat), vs = [.ref x, .str m, .int (n : Int), .int (far : Int)] ∧ Ex H0 H ∧ H0 x = none ∧ H x = some (.ins CG dx []) ∧ isMask m = true ∧ 1 ≤ n ∧ n ≤ 4 ∧ n ^ m.length ≤ 1100 ∧
  ∀ H', Ex H0 H' → GrowAt CG H' x m (sgn n) far → Q .non H'
def spBegun (K : PySem.W.Frag) (CG : Addr) : Sp := fun vs H Q _ => ∃ (x : Addr) (m z : Str) (far : Nat) (r : List Nat), vs = [.ref x, .str (txt r)] ∧ isMask m = true ∧ GrowAt CG H x m z far ∧ (∀ c ∈ r, c ∈ z.cps.toList) ∧ r.length ≤ 100 ∧
  ∀ p xs H', Ex H H' → H p = none → H' p = some (.lst xs) → PrsM far m z H' xs [r] → Q (.ref p) H'
def spLonger (K : PySem.W.Frag) (CG : Addr) : Sp := fun vs H Q _ => ∃ (x a : Addr) (m z : Str) (far : Nat) (xs : List V) (rs : List (List Nat)), vs = [.ref x, .ref a] ∧ isMask m = true ∧ z.length ≤ 4 ∧ GrowAt CG H x m z far ∧ H a = some (.lst xs) ∧ PrsM far m z H xs rs ∧
  (∀ r ∈ rs, (∀ c ∈ r, c ∈ z.cps.toList) ∧ ap far (vws (openM m) m.length r) ∧ r.length ≤ 100) ∧ (rs.flatMap (stp far z.cps.toList (openM m) m.length)).length ≤ 8388608 ∧
  ∀ p ys H', Ex H H' → H p = none → H' p = some (.lst ys) → PrsM far m z H' ys (rs.flatMap (stp far z.cps.toList (openM m) m.length)) → Q (.ref p) H'
section
variable {P : Program} {w : World} {K : PySem.W.Frag} {mg : Str → Option Value} {base : Heap} {CM CV CG fG CK fK a_SMALL_WIDTH a_SMALL_SEEN : Addr}
theorem ok_ginit (T : Top K mg CM CV CG fG CK fK a_SMALL_WIDTH a_SMALL_SEEN) (c1 : Cal P w K mg base CX0 5 "window_bits" p_window_bits (spBits K)) : ∃ fd, FnOk P w K mg base CX0 6 fG fd p_Growth___init__ (spGInit CG) ∧ Binds K fd p_Growth___init__ [] := by
  obtain ⟨fd, F, b_⟩ := T.t_Growth_init
  obtain ⟨f_window_bits, fd_window_bits, G_window_bits, m_window_bits, k_window_bits, b_window_bits⟩ := c1
  have cl := T.c_Growth.cl
  have na := T.c_Growth.na
  refine ⟨fd, F.ok sc_Growth___init__ (fun vs H Q E h => ?_) (fun cdv A outer s H vs Q E hr h => ?_), b_⟩
  · obtain ⟨H0, x, dx, m, n, far, rfl, _⟩ := h
    rfl
  · obtain ⟨H0, x, dx, m, n, far, rfl, e0, n0, hx, hm, h1, h4, hB, q⟩ := h
    have l1 := isMask_len hm
    refine ⟨_, (pss_cons (ps_fld (pv 0) (pe_slice sl_str (pe_glob (v := .str (PySem.Str.ofString "abcd")) (by rfl) T.g_LETTERS.choose_spec ⟨_, rfl⟩) po_none (po_some (pv 2))) rfl)
      (pss_cons (ps_fld (pv 0) (pe_callB call_len_str (by rfl) T.m_len (by decide +kernel) (pa_cons (pv 1) pa_nil)) rfl)
      (pss_one (ps_fld (pv 0) (pe_call G_window_bits (hr.mono (by decide)) (by rfl) m_window_bits k_window_bits b_window_bits .nil pass0 (pa_cons (pv 1) (pa_cons (pe_fld (pv 0) rfl) (pa_cons (pv 3) pa_nil)))) rfl)))), ?_⟩
    refine ev_slS (z := PySem.Str.ofString "abcd") ev_c eo_none (eo_some (i := (n : Int)) (ev_var rfl)) (by decide +kernel) _ (Ex.refl _) _ fun H1 e1 => ?_
    refine ⟨_, rfl, x, CG, dx, [], rfl, e1 _ _ hx, cl, na _ (by simp), by simp, ?_⟩
    have s1 : Ex H0 (upd H1 x (.ins CG dx (putF "signs" (.str (sgn n)) []))) := Ex.mut (e0.trans e1) n0
    refine ⟨_, rfl, m, rfl, by rw [sizeLine_eq]; omega, _, rfl, x, CG, dx, _, rfl, upd_same, cl, na _ (by simp), Nat.lt_of_le_of_lt (length_putF _ _ _) (by decide), ?_⟩
    have s2 : Ex H0 (upd (upd H1 x (.ins CG dx (putF "signs" (.str (sgn n)) []))) x (.ins CG dx (putF "width" (.int (m.length : Int)) (putF "signs" (.str (sgn n)) [])))) := Ex.mut s1 n0
    refine ⟨_, rfl, _, rfl, x, CG, dx, _, _, rfl, upd_same, cl, na "signs" (by simp), (by rw [lookup_putF, if_neg nsw, lookup_putF, if_pos rfl]; rfl), _, rfl, m, sgn n, far, rfl, hm, by rw [sgn_len h4]; exact h1, by rw [sgn_len h4]; exact h4, by rw [sgn_len h4]; exact hB, sgn_nodup h4, sgn_sign h4, fun d kvs H3 e3 nd hd hb => ?_⟩
    have dx_ : d ≠ x := fun z => by rw [z, upd_same] at nd; cases nd
    refine ⟨_, rfl, x, CG, dx, _, rfl, e3 _ _ upd_same, cl, na _ (by simp), Nat.lt_of_le_of_lt (length_putF _ _ _) (Nat.lt_of_le_of_lt (Nat.add_le_add_right (length_putF _ _ _) 1) (by decide)), ?_⟩
    refine q _ (Ex.mut (s2.trans e3) n0) ⟨dx, d, kvs, upd_same, by rw [upd_ne dx_]; exact hd, fun u => ⟨fun hu => ?_, (hb u).2⟩⟩
    obtain ⟨t, a, b⟩ := (hb u).1 hu
    have hx3 := e3 _ _ (show upd _ x _ x = _ from upd_same)
    have tx : t ≠ x := fun z => by rw [z, hx3] at b; cases b
    exact ⟨t, a, by rw [upd_ne tx]; exact b⟩
theorem ok_begun (T : Top K mg CM CV CG fG CK fK a_SMALL_WIDTH a_SMALL_SEEN) : ∃ g fd, Meth K CG "begun" g ∧ FnOk P w K mg base CX0 7 g fd p_Growth_begun (spBegun K CG) ∧ Binds K fd p_Growth_begun [] := by
  obtain ⟨g, fd, mt, F, b_⟩ := T.t_Growth_begun
  have cl := T.c_Growth.cl
  have na := T.c_Growth.na
  refine ⟨g, fd, mt, F.ok sc_Growth_begun (fun vs H Q E h => ?_) (fun cdv A outer s H vs Q E hr h => ?_), b_⟩
  · obtain ⟨x, m, z, far, r, rfl, _⟩ := h
    rfl
  · obtain ⟨x, m, z, far, r, rfl, hm, ⟨dx, d, kvs, hx, hd, hb⟩, hrs, hrl, q⟩ := h
    have l1 := isMask_len hm
    have hl : ∀ p ∈ openM m, p < m.length := fun p hp => open_lt hp
    refine ⟨_, (pss_cons (ps_set (i := 2) sc_Growth_begun.nd rfl (Or.inl rfl) pe_int)
      (pss_cons (ps_for PassesOwn.never rfl (pi_range1 (by rfl) T.m_range (pa_cons (pe_op op_add (pe_op op_sub (pe_callB call_len_str (by rfl) T.m_len (by decide +kernel) (pa_cons (pv 1) pa_nil)) (pe_fld (pv 0) rfl)) pe_int) pa_nil)) (pg_name (i := 3) sc_Growth_begun.nd rfl (Or.inl rfl)) (pss_cons (ps_asg (pe_dget (Nat.lt_of_le_of_lt (Nat.add_le_add_left (by decide) _) hr.units) (pe_fld (pv 0) rfl) (pe_slice sl_str (pv 1) (po_some (pv 3)) (po_some (pe_op op_add (pv 3) (pe_fld (pv 0) rfl)))) (fun _ _ => rfl)) (pg_tup (by rfl) (pgs_cons (pg_name (i := 4) sc_Growth_begun.nd rfl (Or.inl rfl)) (pgs_cons (pg_name (i := 5) sc_Growth_begun.nd rfl (Or.inl rfl)) pgs_nil))))
      (pss_one (ps_aug (i := 2) sc_Growth_begun.nd rfl (Or.inl rfl) (pv 5) ip_or))))
      (pss_one (ps_ret (pe_lst (pa_cons (pe_tup (pa_cons (pv 1) (pa_cons (pv 2) pa_nil))) pa_nil)))))), ?_⟩
    refine q_asg (v := .int 0) ev_c fun H1 e1 => ?_
    refine q_forRn (j := 3) (n := (r.length : Int) - (m.length : Int) + 1) (ea_cons (ev_op (ev_op (ev_is (ev_cb (ea_cons (ev_var rfl) ea_nil) (rc_lenS (z := txt r) (by rw [txt_len]; omega))) (by rw [txt_len])) (ev_fld (ev_var rfl) (e1 _ _ hx) cl (na "width" (by simp)) (gF_width _ _ _)) rv_I0) ev_c rv_I0) ea_nil) (by omega)
      (fun i σ' H' => Ex H H' ∧ ∃ x3 x4 x5, σ' = [some (.ref x), some (.str (txt r)), some (.int ((brs far (wordsL z.cps.toList (openM m).length) ((vws (openM m) m.length r).take i) : Nat) : Int)), x3, x4, x5])
      (fun H2 e2 => ⟨e1.trans e2, _, _, _, rfl⟩) (fun i σ' H' hi hp => ?_) (fun σ' H' hp => ?_)
    · obtain ⟨eH, x3, x4, x5, rfl⟩ := hp
      have hiw : i + m.length ≤ r.length := by omega
      obtain ⟨t, h1, h2⟩ := (hb ((r.drop i).take m.length)).1 (words_mem _ _ (by rw [List.length_take, List.length_drop]; omega) fun c hc => hrs c (List.mem_of_mem_drop (List.mem_of_mem_take hc)))
      rw [vw_cut hl] at h2
      have sl : Ev (tSl rSlS (tVar 1) (tPart (tVar 3)) (tPart (tOp (rI0 fun i j => V.int (i + j)) (tVar 3) (tFld K (tVar 0) "width")))) ([some (.ref x), some (.str (txt r)), some (.int ((brs far (wordsL z.cps.toList (openM m).length) ((vws (openM m) m.length r).take i) : Nat) : Int)), x3, x4, x5].set 3 (some (.int (i : Int)))) H' (.str (txt ((r.drop i).take m.length))) :=
        ev_is (ev_slS (ev_var rfl) (eo_some (ev_var rfl)) (eo_some (ev_op (ev_var rfl) (ev_fld (ev_var rfl) (eH _ _ hx) cl (na "width" (by simp)) (gF_width _ _ _)) rv_I0)) (by rw [txt_len]; omega)) (by rw [cut_mid hiw])
      refine q_unp2 (K := K) (x := .int ((2 ^ (wordsL z.cps.toList (openM m).length).idxOf (vw (openM m) r i) : Nat) : Int)) (y := .int ((barN far (wordsL z.cps.toList (openM m).length) (vw (openM m) r i) : Nat) : Int)) (er_of (R := fun v H1 => v = .ref t ∧ Ex H H1) (ev_dget (k := ksT ((r.drop i).take m.length)) (ev_fld (ev_var rfl) (eH _ _ hx) cl (na "bits" (by simp)) (gF_bits _ _ _)) sl (eH _ _ hd) h1) fun H1 e => ⟨rfl, eH.trans e⟩) (fun v H1 _ rr => ⟨t, rr.1, st_of (rr.2 _ _ h2)⟩) fun H4 e34 => ?_
      refine s_aug rfl (ev_var rfl) fun H5 e5 => ?_
      have tk : (vws (openM m) m.length r).take (i + 1) = (vws (openM m) m.length r).take i ++ [vw (openM m) r i] := by
        unfold vws
        rw [List.take_succ, List.getElem?_map, List.getElem?_range (by omega)]
        rfl
      exact ⟨(eH.trans e34).trans e5, _, _, _, by rw [tk, brs_snoc, ← or_nat]; rfl⟩
    · obtain ⟨eH, x3, x4, x5, rfl⟩ := hp
      rw [List.take_of_length_le (by unfold vws; rw [List.length_map, List.length_range]; omega)]
      refine ⟨_, rfl, _, rfl, by show 2 ≤ sizeLine; decide, fun t nt => ⟨by show 1 ≤ sizeLine; decide, fun p np => ?_⟩⟩
      refine q p _ _ ((eH.trans (Ex.new nt)).trans (Ex.new np)) (fresh_back (eH.trans (Ex.new nt)) np) upd_same ?_
      have z0 : Prs (barM far m z) (upd (upd H' t (.tup [.str (txt r), .int ((brs far (wordsL z.cps.toList (openM m).length) (vws (openM m) m.length r) : Nat) : Int)])) p (.lst [.ref t])) ([] ++ [.ref t]) ([] ++ [r]) := .snoc .nil ((Ex.new np) _ _ upd_same)
      exact z0
theorem ok_longer (T : Top K mg CM CV CG fG CK fK a_SMALL_WIDTH a_SMALL_SEEN) : ∃ g fd, Meth K CG "longer" g ∧ FnOk P w K mg base CX0 7 g fd p_Growth_longer (spLonger K CG) ∧ Binds K fd p_Growth_longer [] := by
  obtain ⟨g, fd, mt, F, b_⟩ := T.t_Growth_longer
  have cl := T.c_Growth.cl
  have na := T.c_Growth.na
  refine ⟨g, fd, mt, F.ok sc_Growth_longer (fun vs H Q E h => ?_) (fun cdv A outer s H vs Q E hr h => ?_), b_⟩
  · obtain ⟨x, a, m, z, far, xs, rs, rfl, _⟩ := h
    rfl
  · obtain ⟨x, a, m, z, far, xs, rs, rfl, hm, hz4, ⟨dx, d, kvs, hx, hd, hb⟩, ha, hp, hr_, hT, q⟩ := h
    have l1 := isMask_len hm
    have hl : ∀ p ∈ openM m, p < m.length := fun p hp => open_lt hp
    have hlen := hp.len
    obtain ⟨sg_, hsg⟩ : ∃ sg_, z.cps.toList = sg_ := ⟨_, rfl⟩
    have hzl := len_l z
    rw [hsg] at hb hr_ hT q hzl
    obtain ⟨B, hB⟩ : ∃ B, barM far m z = B := ⟨_, rfl⟩
    have eB : ∀ r, B r = brs far (wordsL sg_ (openM m).length) (vws (openM m) m.length r) := fun r => by
      rw [← hB, ← hsg]
      rfl
    unfold PrsM at hp q
    rw [hB] at hp q
    refine ⟨_, (pss_cons (ps_set (i := 2) sc_Growth_longer.nd rfl (Or.inl rfl) (pe_lst pa_nil))
      (pss_cons (ps_for PassesOwn.never rfl (pi_list (pv 1)) (pg_tup (by rfl) (pgs_cons (pg_name (i := 3) sc_Growth_longer.nd rfl (Or.inl rfl)) (pgs_cons (pg_name (i := 4) sc_Growth_longer.nd rfl (Or.inl rfl)) pgs_nil))) (pss_one (ps_for PassesOwn.never rfl (pi_str (pe_fld (pv 0) rfl)) (pg_name (i := 5) sc_Growth_longer.nd rfl (Or.inl rfl)) (pss_cons (ps_set (i := 6) sc_Growth_longer.nd rfl (Or.inl rfl) (pe_op op_add_str (pv 3) (pv 5)))
      (pss_cons (ps_asg (pe_dget2 (Nat.lt_of_le_of_lt (Nat.add_le_add_left (by decide) _) hr.units) (pe_fld (pv 0) rfl) (pe_slice sl_str (pv 6) (po_some (pe_un un_neg (pe_fld (pv 0) rfl))) po_none) (pe_tup (pa_cons pe_int (pa_cons pe_int pa_nil))) ⟨rfl, rfl, rfl, rfl⟩) (pg_tup (by rfl) (pgs_cons (pg_name (i := 7) sc_Growth_longer.nd rfl (Or.inl rfl)) (pgs_cons (pg_name (i := 8) sc_Growth_longer.nd rfl (Or.inl rfl)) pgs_nil))))
      (pss_one (ps_if (pt_not (pt_truth (pe_op op_and (pv 4) (pv 7)) (by intro _; rfl))) (pss_one (ps_expr (pe_bm PySem.F.plainAttrs_list PySem.F.slot_list_append PySem.F.type_list_append mt_append (pv 2) (pa_cons (pe_tup (pa_cons (pv 6) (pa_cons (pe_op op_or (pv 4) (pv 8)) pa_nil))) pa_nil)))) pss_nil)))))))
      (pss_one (ps_ret (pv 2))))), ?_⟩
    refine q_asgL (xs := []) (el_lst ea_nil (by simp)) fun D H1 nD e1 hD => ?_
    refine s_forL (D := { nx := _, rt := _, bk := _, ct := _ }) (xs := xs) (ev_var rfl) (sq_of (e1 _ _ ha)) (fun i σ' H' => Ex H H' ∧ ∃ ys x3 x4 x5 x6 x7 x8, H' D = some (.lst ys) ∧ Prs B H' ys ((rs.take i).flatMap (stp far sg_ (openM m) m.length)) ∧ σ' = [some (.ref x), some (.ref a), some (.ref D), x3, x4, x5, x6, x7, x8])
      (fun H2 e2 => ⟨e1.trans e2, [], _, _, _, _, _, _, e2 _ _ hD, .nil, rfl⟩) (fun i σ' H' _ pp => sq_of (pp.1 _ _ ha)) (fun i y σ' H' hy pp => ?_) (fun σ' H' pp => ?_)
    · obtain ⟨eH, ys, x3, x4, x5, x6, x7, x8, hD', hq, rfl⟩ := pp
      obtain ⟨t, hri, rfl, ht⟩ := hp.get hy
      obtain ⟨r, hrd⟩ : ∃ r, rs.getD i [] = r := ⟨_, rfl⟩
      rw [hrd] at hri ht
      obtain ⟨g1, g2, g3⟩ := hr_ r (List.mem_of_getElem? hri)
      have hi := (List.getElem?_eq_some_iff.mp hri).1
      have tk : rs.take (i + 1) = rs.take i ++ [r] := by
        rw [List.take_succ, hri]
        rfl
      have tot : ((rs.take i).flatMap (stp far sg_ (openM m) m.length)).length + (stp far sg_ (openM m) m.length r).length ≤ 8388608 := by
        refine Nat.le_trans ?_ hT
        conv => rhs; rw [← List.take_append_drop (i + 1) rs, tk, List.flatMap_append, List.flatMap_append, List.flatMap_singleton]
        rw [List.length_append, List.length_append]
        omega
      refine ⟨t, _, rfl, st_of (eH _ _ ht), rfl, _, _, rfl, _, _, rfl, rfl, ?_⟩
      dsimp only [gName]
      refine s_forS (z := z) (ev_fld (ev_var rfl) (eH _ _ hx) cl (na "signs" (by simp)) (gF_signs _ _ _)) (fun k σ' H2 => Ex H H2 ∧ ∃ ys x5 x6 x7 x8, H2 D = some (.lst ys) ∧ Prs B H2 ys ((rs.take i).flatMap (stp far sg_ (openM m) m.length) ++ ((sg_.take k).filter fun c => decide (ap far (vws (openM m) m.length (r ++ [c])))).map fun c => r ++ [c]) ∧
        σ' = [some (.ref x), some (.ref a), some (.ref D), some (.str (txt r)), some (.int ((B r : Nat) : Int)), x5, x6, x7, x8])
        (fun H2 e2 => ⟨eH.trans e2, ys, _, _, _, _, e2 _ _ hD', by rw [List.take_zero]; simpa using hq.ex e2, rfl⟩) (fun k σ' H2 hk pp => ?_) (fun σ' H2 pp => ?_)
      · obtain ⟨eH2, ys, x5, x6, x7, x8, hD2, hq2, rfl⟩ := pp
        obtain ⟨c, hc⟩ : ∃ c, z.cps.toList.getD k 0 = c := ⟨_, rfl⟩
        have hck : sg_[k]? = some c := by
          rw [← hsg, ← hc, List.getD_eq_getElem?_getD, List.getElem?_eq_getElem (by rw [len_l]; exact hk)]
          rfl
        have hcm := List.mem_of_getElem? hck
        have tk2 : sg_.take (k + 1) = sg_.take k ++ [c] := by
          rw [List.take_succ, hck]
          rfl
        have hmore : ∀ d ∈ r ++ [c], d ∈ sg_ := fun d hd => by
          rcases List.mem_append.mp hd with z | z
          · exact g1 d z
          · rw [List.mem_singleton.mp z]; exact hcm
        unfold sg
        rw [hc]
        refine q_asg (v := .str (txt (r ++ [c]))) (by rw [← txt_snoc]; exact ev_op (ev_var rfl) (ev_var rfl) (rv_addS (by rw [txt_len]; show r.length + 1 ≤ _; omega))) fun H3 e3 => ?_
        have sl : Ev (tSl rSlS (tVar 6) (tPart (tUn (rU fun i => V.int (-i)) (tFld K (tVar 0) "width"))) tNoPart) (((([some (.ref x), some (.ref a), some (.ref D), some (.str (txt r)), some (.int ((B r : Nat) : Int)), x5, x6, x7, x8] : L2.St).set 5 (some (.str ⟨#[c]⟩))).set 6 (some (.str (txt (r ++ [c])))))) H3 (.str (txt ((r ++ [c]).drop ((r ++ [c]).length - m.length)))) :=
          ev_is (ev_slS (ev_var rfl) (eo_some (ev_un (ev_fld (ev_var rfl) ((eH2.trans e3) _ _ hx) cl (na "width" (by simp)) (gF_width _ _ _)) ru_neg)) eo_none (by rw [txt_len, List.length_append]; show r.length + 1 ≤ _; omega)) (by rw [cut_neg (by omega)])
        refine q_unp2 (K := K) (x := .int ((bt (wordsL sg_ (openM m).length) (openM m) m.length (r ++ [c]) : Nat) : Int)) (y := .int ((nr far (wordsL sg_ (openM m).length) (openM m) m.length (r ++ [c]) : Nat) : Int)) (er_dget2 (k := ksT ((r ++ [c]).drop ((r ++ [c]).length - m.length))) (ev_fld (ev_var rfl) ((eH2.trans e3) _ _ hx) cl (na "bits" (by simp)) (gF_bits _ _ _)) sl (eu_tup (ea_cons ev_c (ea_cons ev_c ea_nil)) (by simp)) ((eH2.trans e3) _ _ hd)) (fun v G eG rr => ?_) fun H4 e4 => ?_
        · obtain ⟨t0, h04, rfl⟩ := rr
          obtain ⟨tb, htb, htb2⟩ := bit_pair hl (hb.ex ((eH2.trans e3).trans eG)) hmore h04
          exact ⟨tb, htb, st_of htb2⟩
        have e24 := e3.trans e4
        have eH4 := eH2.trans e24
        have hD4 := e24 _ _ hD2
        have hq4 := hq2.ex e24
        have key := fits (far := far) (sg := sg_) hl g2 hmore
        rw [← eB] at key
        obtain ⟨VS, hVS⟩ : ∃ VS, wordsL sg_ (openM m).length = VS := ⟨_, rfl⟩
        rw [hVS] at key ⊢
        have yl : ys.length < sizeLine := by
          rw [hq2.len, List.length_append, List.length_map, sizeLine_eq]
          have z1 : (((sg_.take k).filter fun c => decide (ap far (vws (openM m) m.length (r ++ [c]))))).length ≤ (sg_.take k).length := List.length_filter_le _ _
          rw [List.length_take] at z1
          omega
        refine s_when (b := !(decide (B r &&& bt VS (openM m) m.length (r ++ [c]) ≠ 0))) (et_not ?_) (fun hb2 H5 e5 => ?_) (fun hb2 H5 e5 => ?_)
        · intro G eG Q2 q2
          refine ev_op (ev_var rfl) (ev_var rfl) rv_I0 G eG _ fun G2 eG2 => ⟨_, rfl, ?_⟩
          rw [and_nat]
          have ek : (((B r &&& bt VS (openM m) m.length (r ++ [c]) : Nat) : Int) != 0) = decide (B r &&& bt VS (openM m) m.length (r ++ [c]) ≠ 0) := by
            exact Bool.eq_iff_iff.mpr (by simp)
          rw [ek]
          exact q2 G2 eG2
        · have hz0 : B r &&& bt VS (openM m) m.length (r ++ [c]) = 0 := by simpa using hb2
          have nd := key.mp hz0
          refine s_appUB (e5 _ _ hD4) (ev_var rfl) (eu_tup (ea_cons (ev_var rfl) (ea_cons (ev_is (w := .int ((B (r ++ [c]) : Nat) : Int)) (ev_op (ev_var rfl) (ev_var rfl) rv_I0) (by rw [or_nat, eB (r ++ [c]), eB r, brs_step hl, hVS])) ea_nil)) (by simp)) yl fun p H6 np e6 hp6 => ?_
          have hD6 := e6 _ _ (e5 _ _ hD4)
          refine ⟨Ex.mut ((eH4.trans e5).trans e6) nD, _, _, _, _, _, upd_same, ?_, rfl⟩
          rw [tk2, List.filter_append, List.filter_cons_of_pos (p := fun c => decide (ap far (vws (openM m) m.length (r ++ [c])))) (by exact decide_eq_true nd), List.filter_nil, List.map_append, ← List.append_assoc]
          exact .snoc ((hq4.ex (e5.trans e6)).upd hD6) (by rw [upd_ne (ne_of hp6 hD6 (by intro z; cases z))]; exact hp6)
        · have hz0 : ¬ ap far (vws (openM m) m.length (r ++ [c])) := fun nd => by
            have := key.mpr nd
            rw [this] at hb2
            cases hb2
          refine ⟨eH4.trans e5, ys, _, _, _, _, e5 _ _ hD4, ?_, rfl⟩
          rw [tk2, List.filter_append, List.filter_cons_of_neg (p := fun c => decide (ap far (vws (openM m) m.length (r ++ [c])))) (by simpa using hz0), List.filter_nil, List.append_nil]
          exact hq4.ex e5
      · obtain ⟨eH2, ys, x5, x6, x7, x8, hD2, hq2, rfl⟩ := pp
        refine ⟨eH2, ys, _, _, _, _, _, _, hD2, ?_, rfl⟩
        rw [tk, List.flatMap_append, List.flatMap_singleton]
        rw [List.take_of_length_le (l := sg_) (i := z.length) (by omega)] at hq2
        exact hq2
    · obtain ⟨eH, ys, x3, x4, x5, x6, x7, x8, hD', hq, rfl⟩ := pp
      rw [hlen, List.take_length] at hq
      refine s_ret (ev_var rfl) fun H2 e2 => q D ys H2 (eH.trans e2) nD (e2 _ _ hD') ?_
      exact hq.ex e2
end
end K24
namespace K24
open PySem PySem.Spec PyProof.Rows L2 Evl Qt
def SW (n : Nat) : Nat := if n = 1 then 12 else if n = 2 then 8 else if n = 3 then 5 else 4
def SS (n : Nat) : Nat := if n = 1 then 12 else if n = 2 then 4 else if n = 3 then 2 else 1
def SmallM (m : Str) (n : Nat) : Prop := isMask m = true ∧ 1 ≤ n ∧ n ≤ 4 ∧ m.length ≤ SW n ∧ (openM m).length ≤ SS n
theorem SmallM.words {m : Str} {n : Nat} (h : SmallM m n) : n ^ m.length ≤ 1100 := by
  obtain ⟨_, h1, h4, hw, _⟩ := h
  refine Nat.le_trans (Nat.pow_le_pow_right h1 hw) ?_
  have : n = 1 ∨ n = 2 ∨ n = 3 ∨ n = 4 := by omega
  rcases this with rfl | rfl | rfl | rfl <;> decide
theorem SmallM.rows {m : Str} {n : Nat} (h : SmallM m n) : n ^ (n ^ (openM m).length + m.length - 1) ≤ 8388608 := by
  obtain ⟨_, h1, h4, hw, hs⟩ := h
  have e : n ^ (openM m).length ≤ n ^ SS n := Nat.pow_le_pow_right h1 hs
  refine Nat.le_trans (Nat.pow_le_pow_right h1 (show _ ≤ n ^ SS n + SW n - 1 by omega)) ?_
  have : n = 1 ∨ n = 2 ∨ n = 3 ∨ n = 4 := by omega
  rcases this with rfl | rfl | rfl | rfl <;> decide +kernel
theorem SmallM.top {m : Str} {n : Nat} (h : SmallM m n) : n ^ (openM m).length + m.length ≤ 24 := by
  obtain ⟨_, h1, h4, hw, hs⟩ := h
  have e : n ^ (openM m).length ≤ n ^ SS n := Nat.pow_le_pow_right h1 hs
  refine Nat.le_trans (Nat.add_le_add e hw) ?_
  have : n = 1 ∨ n = 2 ∨ n = 3 ∨ n = 4 := by omega
  rcases this with rfl | rfl | rfl | rfl <;> decide +kernel
/-- the rows of one length that a mask tells -/
def levM (m : Str) (n k : Nat) : List (List Nat) := lev (sgn n).cps.toList (openM m) m.length k
def TopM (m : Str) (n k : Nat) : Prop := IsTop (sgn n).cps.toList (openM m) m.length k
theorem openM_lt (m : Str) : ∀ p ∈ openM m, p < m.length := fun p hp => open_lt hp
theorem levM_small {m : Str} {n : Nat} (h : SmallM m n) (k : Nat) : (levM m n k).length ≤ 8388608 := by
  have l1 := isMask_len h.1
  have e : (sgn n).cps.toList.length = n := by rw [len_l, sgn_len h.2.2.1]
  exact lev_small l1.1 (openM_lt m) k (by rw [e]; exact h.2.1) (by rw [e]; exact h.rows)
theorem levM_each {m : Str} {n k : Nat} (h : SmallM m n) (hk : k ≤ 100) : ∀ r ∈ levM m n k, (∀ c ∈ r, c ∈ (sgn n).cps.toList) ∧ ap 1 (vws (openM m) m.length r) ∧ r.length ≤ 100 := fun r hr => by
  obtain ⟨a, b, c⟩ := lev_each (isMask_len h.1).1 hr
  exact ⟨b, ap_one.mpr c, by omega⟩
theorem topM_le {m : Str} {n k : Nat} (h : SmallM m n) (hk : levM m n k ≠ []) : k < n ^ (openM m).length + m.length := by
  have e : (sgn n).cps.toList.length = n := by rw [len_l, sgn_len h.2.2.1]
  have z := top_lt (isMask_len h.1).1 (openM_lt m) hk
  rw [e] at z
  exact z
/-- the rows that begin with r0, their views so far apart -/
def groM (far : Nat) (m : Str) (n : Nat) (r0 : List Nat) (k : Nat) : List (List Nat) := gro far (sgn n).cps.toList (openM m) m.length r0 k
def TopF (far : Nat) (m : Str) (n : Nat) (r0 : List Nat) (k : Nat) : Prop := IsTopF far (sgn n).cps.toList (openM m) m.length r0 k
def RowOk (far : Nat) (m : Str) (n : Nat) (r0 : List Nat) : Prop := (∀ c ∈ r0, c ∈ (sgn n).cps.toList) ∧ ap far (vws (openM m) m.length r0)
theorem groM_small {far : Nat} {m : Str} {n : Nat} {r0 : List Nat} (h : SmallM m n) (hf : 1 ≤ far) (h0 : RowOk far m n r0) (k : Nat) : (groM far m n r0 k).length ≤ 8388608 := by
  have l1 := isMask_len h.1
  have e : (sgn n).cps.toList.length = n := by rw [len_l, sgn_len h.2.2.1]
  exact gro_small hf (openM_lt m) l1.1 h0.1 h0.2 k (by rw [e]; exact h.2.1) (by rw [e]; exact h.rows)
theorem groM_each {far : Nat} {m : Str} {n k : Nat} {r0 : List Nat} (h : SmallM m n) (h0 : RowOk far m n r0) (hk : r0.length + k ≤ 100) : ∀ r ∈ groM far m n r0 k, (∀ c ∈ r, c ∈ (sgn n).cps.toList) ∧ ap far (vws (openM m) m.length r) ∧ r.length ≤ 100 := fun r hr => by
  obtain ⟨a, b, c⟩ := gro_each h0.1 h0.2 hr
  exact ⟨b, c, by omega⟩
theorem topM_leF {far : Nat} {m : Str} {n k : Nat} {r0 : List Nat} (h : SmallM m n) (hf : 1 ≤ far) (h0 : RowOk far m n r0) (hk : groM far m n r0 k ≠ []) : r0.length + k < n ^ (openM m).length + m.length := by
  have e : (sgn n).cps.toList.length = n := by rw [len_l, sgn_len h.2.2.1]
  have z := topF_lt hf (openM_lt m) (isMask_len h.1).1 h0.1 h0.2 hk
  rw [e] at z
  exact z
theorem row_ok_nil {far : Nat} {m : Str} {n : Nat} (h : isMask m = true) : RowOk far m n [] := ⟨(fun c hc => by cases hc), ap_nil (isMask_len h).1⟩
def spGreat : Sp := fun vs H Q _ => ∃ (a b n : Nat), vs = [.int (a : Int), .int (b : Int), .int (n : Int)] ∧ 1 ≤ n ∧ n ≤ 4 ∧ a ≤ SW n ∧ b ≤ SS n ∧ RetV .non H Q
def spSmall : Sp := fun vs H Q _ => ∃ (m : Str) (n : Nat), vs = [.str m, .int (n : Int)] ∧ SmallM m n ∧ RetV .non H Q
def spTold : Sp := fun vs H Q _ => ∃ (m : Str) (n k : Nat), vs = [.str m, .int (n : Int), .int (k : Int)] ∧ SmallM m n ∧ k ≤ 60 ∧ RetL (tS (levM m n k)) H Q
def spFar : Sp := fun vs H Q _ => ∃ (r0 : List Nat) (m : Str) (n far : Nat), vs = [.str (txt r0), .str m, .int (n : Int), .int (far : Int)] ∧ SmallM m n ∧ 1 ≤ far ∧ RowOk far m n r0 ∧ ∀ k, TopF far m n r0 k → RetL (tS (groM far m n r0 k)) H Q
def spLongRows : Sp := fun vs H Q _ => ∃ (m : Str) (n : Nat), vs = [.str m, .int (n : Int)] ∧ SmallM m n ∧ ∀ k, TopM m n k → RetL (tS (levM m n k)) H Q
def spLongest : Sp := fun vs H Q _ => ∃ (m : Str) (n : Nat), vs = [.str m, .int (n : Int)] ∧ SmallM m n ∧ ∀ k, TopM m n k → RetV (.int (k : Int)) H Q
section
variable {P : Program} {w : World} {K : PySem.W.Frag} {mg : Str → Option Value} {base : Heap} {CM CV CG fG CK fK a_SMALL_WIDTH a_SMALL_SEEN : Addr}
theorem ok_great (e : Ent K mg "check_great" s_check_great p_check_great) (T : Top K mg CM CV CG fG CK fK a_SMALL_WIDTH a_SMALL_SEEN) : Cal P w K mg base CX0 1 "check_great" p_check_great spGreat := by
  obtain ⟨f, fd, F, m_, b_⟩ := e
  refine ⟨f, fd, F.ok sc_check_great (fun vs H Q E h => ?_) (fun cdv A outer s H vs Q E hr h => ?_), m_, F.kp, b_⟩
  · obtain ⟨a, b, n, rfl, _⟩ := h
    rfl
  · obtain ⟨a, b, n, rfl, h1, h4, ha, hb, q⟩ := h
    have g1 : KDctI K a_SMALL_WIDTH (n : Int) (.int (SW n : Int)) := by
      have : n = 1 ∨ n = 2 ∨ n = 3 ∨ n = 4 := by omega
      rcases this with rfl | rfl | rfl | rfl
      · exact T.g_SMALL_WIDTH.2 (1, 12) (by simp)
      · exact T.g_SMALL_WIDTH.2 (2, 8) (by simp)
      · exact T.g_SMALL_WIDTH.2 (3, 5) (by simp)
      · exact T.g_SMALL_WIDTH.2 (4, 4) (by simp)
    have g2 : KDctI K a_SMALL_SEEN (n : Int) (.int (SS n : Int)) := by
      have : n = 1 ∨ n = 2 ∨ n = 3 ∨ n = 4 := by omega
      rcases this with rfl | rfl | rfl | rfl
      · exact T.g_SMALL_SEEN.2 (1, 12) (by simp)
      · exact T.g_SMALL_SEEN.2 (2, 4) (by simp)
      · exact T.g_SMALL_SEEN.2 (3, 2) (by simp)
      · exact T.g_SMALL_SEEN.2 (4, 1) (by simp)
    refine ⟨_, (pss_one (ps_if (PW.pt (pw_or (pt_cmpR op_gt (pv 0) (pe_ix ix_kdictI (pe_glob (v := .ref a_SMALL_WIDTH) (by rfl) T.g_SMALL_WIDTH.1 rfl) (pv 2) (fun _ _ => rfl)) (nomark _)) (pw_or1 (pt_cmpR op_gt (pv 1) (pe_ix ix_kdictI (pe_glob (v := .ref a_SMALL_SEEN) (by rfl) T.g_SMALL_SEEN.1 rfl) (pv 2) (fun _ _ => rfl)) (nomark _))))) (pss_one ps_never) pss_nil)), ?_⟩
    refine s_when (b := decide ((SW n : Int) < (a : Int)) || decide ((SS n : Int) < (b : Int))) (et_or (et_test (ev_op (ev_var rfl) (ev_op ev_c (ev_var rfl) (fun H1 _ Q q => ⟨_, _, _, rfl, rfl, g1, q H1 (Ex.refl _)⟩)) rv_I0)) fun _ => et_test (ev_op (ev_var rfl) (ev_op ev_c (ev_var rfl) (fun H1 _ Q q => ⟨_, _, _, rfl, rfl, g2, q H1 (Ex.refl _)⟩)) rv_I0)) (fun hh => ?_) (fun _ H1 e1 => q H1 e1)
    rw [decide_eq_false (by omega), decide_eq_false (by omega)] at hh
    cases hh
theorem ok_small (e : Ent K mg "check_small" s_check_small p_check_small) (T : Top K mg CM CV CG fG CK fK a_SMALL_WIDTH a_SMALL_SEEN) (c1 : Cal P w K mg base (L2.CX P w) 3 "check_mask" p_check_mask (spCheckMask K CM)) (c2 : Cal P w K mg base CX0 2 "check_letters" p_check_letters spLetters)
    (c3 : Cal P w K mg base CX0 1 "check_great" p_check_great spGreat) : Cal P w K mg base (L2.CX P w) 4 "check_small" p_check_small spSmall := by
  obtain ⟨f, fd, F, m_, b_⟩ := e
  obtain ⟨f_check_mask, fd_check_mask, G_check_mask, m_check_mask, k_check_mask, b_check_mask⟩ := c1
  obtain ⟨f_check_letters, fd_check_letters, G_check_letters, m_check_letters, k_check_letters, b_check_letters⟩ := c2
  obtain ⟨f_check_great, fd_check_great, G_check_great, m_check_great, k_check_great, b_check_great⟩ := c3
  refine ⟨f, fd, F.okX sc_check_small (fun vs H Q E h => ?_) (fun cdv A outer s H vs Q E hr h => ?_), m_, F.kp, b_⟩
  · obtain ⟨m, n, rfl, _⟩ := h
    rfl
  · obtain ⟨m, n, rfl, ⟨hm, h1, h4, hw, hs⟩, q⟩ := h
    have l1 := isMask_len hm
    refine ⟨_, (pss_cons (ps_expr (pe_call G_check_mask (hr.mono (by decide)) (by rfl) m_check_mask k_check_mask b_check_mask .nil (passes_call (takes_of rfl rfl rfl rfl) (fun _ _ _ _ h => h)) (pa_cons (pv 0) pa_nil)))
      (pss_cons (ps_expr (pe_call G_check_letters (hr.mono (by decide)) (by rfl) m_check_letters k_check_letters b_check_letters .nil pass0 (pa_cons (pv 1) pa_nil)))
      (pss_one (ps_expr (pe_call G_check_great (hr.mono (by decide)) (by rfl) m_check_great k_check_great b_check_great .nil pass0 (pa_cons (pe_callB call_len_str (by rfl) T.m_len (by decide +kernel) (pa_cons (pv 0) pa_nil)) (pa_cons (pe_m1 PySem.F.slot_str_count PySem.F.type_str_count mt_count (pv 0) pe_str) (pa_cons (pv 1) pa_nil)))))))), ?_⟩
    refine ⟨_, rfl, .str m, rfl, .str (by omega), fun _ H1 e1 => ?_, fun z => by rw [show isMaskV (.str m) = isMask m from rfl, hm] at z; cases z⟩
    refine ⟨_, rfl, n, rfl, h1, h4, fun H2 e2 => ?_⟩
    dsimp only [tSeq]
    refine s_drop (D := { nx := _, rt := _, bk := _, ct := _ }) (v := .non) (ev_call (ea_cons (ev_cb (ea_cons (ev_var rfl) ea_nil) (rc_lenS (z := m) (by omega))) (ea_cons (ev_is (ev_count (z := m) (c := 120) (ev_var rfl) (x_eq ▸ ev_c)) (by rw [count_range, len_l]; rfl)) (ea_cons (ev_var rfl) ea_nil))) fun H3 e3 Q2 q2 E2 => ⟨m.length, (openM m).length, n, rfl, h1, h4, hw, hs, q2⟩) fun H3 e3 => q H3 ((e1.trans e2).trans e3)
theorem small0 (c : Cal P w K mg base (L2.CX P w) 4 "check_small" p_check_small spSmall) : Cal P w K mg base CX0 4 "check_small" p_check_small spSmall := c.calm fun vs H Q E h => by
  obtain ⟨m, n, rfl, h1, q⟩ := h
  exact ⟨m, n, rfl, h1, q⟩
end
end K24
namespace K24
open PySem PySem.Spec PyProof.Rows L2 Evl Qt
theorem nb1 : ¬ (("begun" : Str) = "bits") := by decide +kernel
theorem nb2 : ¬ (("begun" : Str) = "width") := by decide +kernel
theorem nb3 : ¬ (("begun" : Str) = "signs") := by decide +kernel
theorem nl1 : ¬ (("longer" : Str) = "bits") := by decide +kernel
theorem nl2 : ¬ (("longer" : Str) = "width") := by decide +kernel
theorem nl3 : ¬ (("longer" : Str) = "signs") := by decide +kernel
theorem prs_rows {B : List Nat → Nat} {H : Hp} {xs : List V} {rs : List (List Nat)} (h : Prs B H xs rs) : (List.range xs.length).map (fun i => V.str (txt (rs.getD i []))) = tS rs := by
  rw [h.len, range_map_getD rs [] fun l => V.str (txt l)]
  rfl
theorem prs_pairs {K : PySem.W.Frag} {B : List Nat → Nat} {H : Hp} {xs : List V} {rs : List (List Nat)} (h : Prs B H xs rs) :
    ∀ i x, xs[i]? = some x → ∃ t, x = .ref t ∧ SqT K H t [V.str (txt (rs.getD i [])), V.int ((B (rs.getD i []) : Nat) : Int)] := fun i x hx => by
  obtain ⟨t, _, h2, h3⟩ := h.get hx
  exact ⟨t, h2, st_of h3⟩
section
variable {P : Program} {w : World} {K : PySem.W.Frag} {mg : Str → Option Value} {base : Heap} {CM CV CG fG CK fK a_SMALL_WIDTH a_SMALL_SEEN : Addr}
theorem ok_told (e : Ent K mg "told_rows" s_told_rows p_told_rows) (T : Top K mg CM CV CG fG CK fK a_SMALL_WIDTH a_SMALL_SEEN) (c1 : Cal P w K mg base CX0 5 "window_bits" p_window_bits (spBits K)) : Cal P w K mg base CX0 8 "told_rows" p_told_rows spTold := by
  obtain ⟨f, fd, F, m_, b_⟩ := e
  obtain ⟨fd_Growth_init, G_Growth_init, b_Growth_init⟩ := ok_ginit T c1
  obtain ⟨g_begun, fd_begun, mt_Growth_begun, G_Growth_begun, b_Growth_begun⟩ := ok_begun (P := P) (w := w) (base := base) T
  obtain ⟨g_longer, fd_longer, mt_Growth_longer, G_Growth_longer, b_Growth_longer⟩ := ok_longer (P := P) (w := w) (base := base) T
  have cl_Growth := T.c_Growth.cl
  have M_Growth := T.c_Growth.mks
  have mc_Growth := T.c_Growth.m
  refine ⟨f, fd, F.ok sc_told_rows (fun vs H Q E h => ?_) (fun cdv A outer s H vs Q E hr h => ?_), m_, F.kp, b_⟩
  · obtain ⟨m, n, k, rfl, _⟩ := h
    rfl
  · obtain ⟨m, n, k, rfl, hsm, hk, q⟩ := h
    have hm := hsm.1
    have l1 := isMask_len hm
    refine ⟨_, (pss_cons (ps_set (i := 3) sc_told_rows.nd rfl (Or.inl rfl) (pe_make M_Growth G_Growth_init (hr.mono (by decide)) (by rfl) mc_Growth b_Growth_init .nil pass0 (pa_cons (pv 0) (pa_cons (pv 1) (pa_cons pe_int pa_nil)))))
      (pss_cons (ps_set (i := 4) sc_told_rows.nd rfl (Or.inl rfl) (pe_meth (pv 3) cl_Growth mt_Growth_begun G_Growth_begun (hr.mono (by decide)) b_Growth_begun .nil pass0 (pa_cons pe_str pa_nil)))
      (pss_cons (ps_for PassesOwn.never rfl (pi_range1 (by rfl) T.m_range (pa_cons (pv 2) pa_nil)) (pg_name (i := 5) sc_told_rows.nd rfl (Or.inl rfl)) (pss_one (ps_set (i := 4) sc_told_rows.nd rfl (Or.inl rfl) (pe_meth (pv 3) cl_Growth mt_Growth_longer G_Growth_longer (hr.mono (by decide)) b_Growth_longer .nil pass0 (pa_cons (pv 4) pa_nil)))))
      (pss_one (ps_ret (pe_lc (own := [("row", 6), ("_", 5)]) (g := gTup K 2 (gCons (gName 6) (gCons (gName 5) gNil))) (by rfl) sc_told_rows.nd (pi_list (pv 4)) (blkOk_by (own := [("row", 6), ("_", 5)]) (N := n_told_rows) (sc := (defScope s_told_rows)) (by decide +kernel)) (fun _ _ _ _ _ => by exact (pg_tup rfl (pgs_cons (by exact pg_name (i := 6) sc_told_rows.nd rfl (Or.inl rfl)) (pgs_cons (by exact pg_name (i := 5) sc_told_rows.nd rfl (Or.inl rfl)) pgs_nil)))) (fun _ _ _ _ _ => pts_nil) (fun _ _ _ _ _ => (pv 6)))))))), ?_⟩
    refine ⟨_, rfl, _, rfl, fun x dx nx ndx ne => ?_⟩
    have eO : Ex H (upd (upd H dx (.own x)) x (.ins CG dx [])) := (Ex.new ndx).trans (Ex.new (by rw [upd_ne ne.symm]; exact nx))
    refine ⟨H, x, dx, m, n, 1, rfl, eO, nx, upd_same, hm, hsm.2.1, hsm.2.2.1, hsm.words, fun H1 e1 hg => ⟨rfl, ?_⟩⟩
    obtain ⟨dx1, d, kvs, hx1, hd1, hb1⟩ := hg
    refine ⟨_, rfl, x, dx1, _, rfl, hx1, gF_no _ _ _ nb1 nb2 nb3, x, m, sgn n, 1, [], by rw [nil_txt]; rfl, hm, ⟨dx1, d, kvs, hx1, hd1, hb1⟩, (fun c hc => by cases hc), by simp, fun p xs H2 e2 np hp hprs => ?_⟩
    dsimp only [gName]
    refine q_forR1 (n := (k : Int)) (j := 5) (ea_cons (ev_var rfl) ea_nil) (by omega) (fun i σ' H' => Ex H1 H' ∧ ∃ p ys x5 x6, H' p = some (.lst ys) ∧ H p = none ∧ PrsM 1 m (sgn n) H' ys (levM m n i) ∧ σ' = [some (.str m), some (.int (n : Int)), some (.int (k : Int)), some (.ref x), some (.ref p), x5, x6])
      (fun H3 e3 => ⟨e2.trans e3, p, xs, _, _, e3 _ _ hp, fresh_back e1 np, hprs.ex e3, rfl⟩) (fun i σ' H' hi pp => ?_) (fun σ' H' pp => ?_)
    · obtain ⟨eH, p, ys, x5, x6, hp, np, hprs, rfl⟩ := pp
      refine ⟨_, rfl, x, dx1, _, rfl, eH _ _ hx1, gF_no _ _ _ nl1 nl2 nl3, _, rfl, x, p, m, sgn n, 1, ys, levM m n i, rfl, hm, by rw [sgn_len hsm.2.2.1]; exact hsm.2.2.1, ⟨dx1, d, kvs, eH _ _ hx1, eH _ _ hd1, hb1.ex eH⟩, hp, hprs, levM_each hsm (by omega), levM_small hsm (i + 1), fun p2 ys2 H3 e3 np2 hp2 hprs2 => ?_⟩
      exact ⟨eH.trans e3, p2, ys2, _, _, hp2, fresh_back ((e1.trans eH)) np2, hprs2, rfl⟩
    · obtain ⟨eH, p, ys, x5, x6, hp, np, hprs, rfl⟩ := pp
      rw [Int.toNat_natCast] at hprs
      have hl := levM_small hsm k
      refine s_retL (xs := tS (levM m n k)) (el_is (el_lcP (K := K) (xs := ys) (fun i => V.str (txt ((levM m n k).getD i []))) _ (fun i => V.str (txt ((levM m n k).getD i []))) (ev_var rfl) (sq_of hp) (prs_pairs hprs) (by rw [hprs.len, sizeLine_eq]; omega) (fun _ _ => rfl) (fun i H4 e4 hi => ev_var rfl)) (prs_rows hprs)) fun p3 H4 np3 e4 hp3 => ?_
      exact q p3 H4 (fresh_back (e1.trans eH) np3) ((e1.trans eH).trans e4) hp3
theorem ok_far (e : EntD K mg "farthest_rows" s_farthest_rows p_farthest_rows 1) (T : Top K mg CM CV CG fG CK fK a_SMALL_WIDTH a_SMALL_SEEN) (c1 : Cal P w K mg base CX0 5 "window_bits" p_window_bits (spBits K)) : CalD P w K mg base CX0 8 "farthest_rows" p_farthest_rows spFar 1 := by
  obtain ⟨f, fd, dds, F, m_, b_, vd_, bd_⟩ := e
  obtain ⟨fd_Growth_init, G_Growth_init, b_Growth_init⟩ := ok_ginit T c1
  obtain ⟨g_begun, fd_begun, mt_Growth_begun, G_Growth_begun, b_Growth_begun⟩ := ok_begun (P := P) (w := w) (base := base) T
  obtain ⟨g_longer, fd_longer, mt_Growth_longer, G_Growth_longer, b_Growth_longer⟩ := ok_longer (P := P) (w := w) (base := base) T
  have cl_Growth := T.c_Growth.cl
  have M_Growth := T.c_Growth.mks
  have mc_Growth := T.c_Growth.m
  refine ⟨f, fd, dds, FunD.ok0 F sc_farthest_rows (fun vs H Q E h => ?_) (fun cdv A outer s H vs Q E hr h => ?_), m_, F.kp, b_, vd_, bd_⟩
  · obtain ⟨r0, m, n, far, rfl, _⟩ := h
    rfl
  · obtain ⟨r0, m, n, far, rfl, hsm, hf, h0, q⟩ := h
    have hm := hsm.1
    have l1 := isMask_len hm
    have top := hsm.top
    have hr0 : r0.length ≤ 24 := by
      have z := topM_leF (k := 0) hsm hf h0 (by intro z; cases z)
      omega
    refine ⟨_, (pss_cons (ps_set (i := 4) sc_farthest_rows.nd rfl (Or.inl rfl) (pe_make M_Growth G_Growth_init (hr.mono (by decide)) (by rfl) mc_Growth b_Growth_init .nil pass0 (pa_cons (pv 1) (pa_cons (pv 2) (pa_cons (pv 3) pa_nil)))))
      (pss_cons (ps_set (i := 5) sc_farthest_rows.nd rfl (Or.inl rfl) (pe_meth (pv 4) cl_Growth mt_Growth_begun G_Growth_begun (hr.mono (by decide)) b_Growth_begun .nil pass0 (pa_cons (pv 0) pa_nil)))
      (pss_cons (ps_whileW PassesOwn.never (ptw_truth (pew_named (i := 6) sc_farthest_rows.nd rfl (Or.inl rfl) (pew_of (pe_meth (pv 4) cl_Growth mt_Growth_longer G_Growth_longer (hr.mono (by decide)) b_Growth_longer .nil pass0 (pa_cons (pv 5) pa_nil))))) (pss_one (ps_set (i := 5) sc_farthest_rows.nd rfl (Or.inl rfl) (pv 6))) pss_nil)
      (pss_one (ps_ret (pe_lc (own := [("made", 7), ("_", 8)]) (g := gTup K 2 (gCons (gName 7) (gCons (gName 8) gNil))) (by rfl) sc_farthest_rows.nd (pi_list (pv 5)) (blkOk_by (own := [("made", 7), ("_", 8)]) (N := n_farthest_rows) (sc := (defScope s_farthest_rows)) (by decide +kernel)) (fun _ _ _ _ _ => by exact (pg_tup rfl (pgs_cons (by exact pg_name (i := 7) sc_farthest_rows.nd rfl (Or.inl rfl)) (pgs_cons (by exact pg_name (i := 8) sc_farthest_rows.nd rfl (Or.inl rfl)) pgs_nil)))) (fun _ _ _ _ _ => pts_nil) (fun _ _ _ _ _ => (pv 7)))))))), ?_⟩
    refine ⟨_, rfl, _, rfl, _, rfl, fun x dx nx ndx ne => ?_⟩
    have eO : Ex H (upd (upd H dx (.own x)) x (.ins CG dx [])) := (Ex.new ndx).trans (Ex.new (by rw [upd_ne ne.symm]; exact nx))
    refine ⟨H, x, dx, m, n, far, rfl, eO, nx, upd_same, hm, hsm.2.1, hsm.2.2.1, hsm.words, fun H1 e1 hg => ⟨rfl, ?_⟩⟩
    obtain ⟨dx1, d, kvs, hx1, hd1, hb1⟩ := hg
    refine ⟨_, rfl, x, dx1, _, rfl, hx1, gF_no _ _ _ nb1 nb2 nb3, _, rfl, x, m, sgn n, far, r0, rfl, hm, ⟨dx1, d, kvs, hx1, hd1, hb1⟩, h0.1, by omega, fun p xs H2 e2 np hp hprs => ?_⟩
    refine ⟨fun mm σ' H' => Ex H1 H' ∧ ∃ i p ys x6 x7 x8, mm + i = n ^ (openM m).length + m.length ∧ H' p = some (.lst ys) ∧ groM far m n r0 i ≠ [] ∧ PrsM far m (sgn n) H' ys (groM far m n r0 i) ∧ σ' = [some (.str (txt r0)), some (.str m), some (.int (n : Int)), some (.int (far : Int)), some (.ref x), some (.ref p), x6, x7, x8],
      ⟨n ^ (openM m).length + m.length, e2, 0, p, xs, _, _, _, rfl, hp, (by intro z; cases z), hprs, rfl⟩, fun mm σ' H' hw => ?_⟩
    obtain ⟨eH, i, p, ys, x6, x7, x8, hmm, hp, hne, hprs, rfl⟩ := hw
    have hi := topM_leF hsm hf h0 hne
    refine ⟨_, rfl, x, dx1, _, rfl, eH _ _ hx1, gF_no _ _ _ nl1 nl2 nl3, _, rfl, x, p, m, sgn n, far, ys, groM far m n r0 i, rfl, hm, by rw [sgn_len hsm.2.2.1]; exact hsm.2.2.1, ⟨dx1, d, kvs, eH _ _ hx1, eH _ _ hd1, hb1.ex eH⟩, hp, hprs, groM_each hsm h0 (by omega), groM_small hsm hf h0 (i + 1), fun p2 ys2 H3 e3 np2 hp2 hprs2 => ?_⟩
    refine ⟨!ys2.isEmpty, .inl ⟨ys2, sq_of hp2, rfl⟩, ?_⟩
    have hl2 := hprs2.len
    cases ey : ys2 with
    | cons y t =>
      rw [ey] at hl2 hp2 hprs2
      have hne2 : groM far m n r0 (i + 1) ≠ [] := fun z => by
        rw [show (groM far m n r0 i).flatMap (stp far (sgn n).cps.toList (openM m) m.length) = groM far m n r0 (i + 1) from rfl, z] at hl2
        cases hl2
      have hi2 := topM_leF hsm hf h0 hne2
      refine (if_pos rfl).mpr ?_
      refine ⟨_, fun σ'' H'' z => ⟨mm - 1, by omega, z⟩, _, rfl, eH.trans e3, i + 1, p2, y :: t, _, _, _, by omega, hp2, hne2, hprs2, rfl⟩
    | nil =>
      rw [ey] at hl2 hp2 hprs2
      have hem : groM far m n r0 (i + 1) = [] := List.length_eq_zero_iff.mp hl2.symm
      refine (if_neg (by decide)).mpr ?_
      have hp3 := e3 _ _ hp
      have hprs3 := hprs.ex e3
      have hl := groM_small hsm hf h0 i
      refine s_retL (xs := tS (groM far m n r0 i)) (el_is (el_lcP (K := K) (xs := ys) (fun j => V.str (txt ((groM far m n r0 i).getD j []))) _ (fun j => V.str (txt ((groM far m n r0 i).getD j []))) (ev_var rfl) (sq_of hp3) (prs_pairs hprs3) (by rw [hprs.len, sizeLine_eq]; omega) (fun _ _ => rfl) (fun j H4 e4 hj => ev_var rfl)) (prs_rows hprs3)) fun p3 H4 np3 e4 hp4 => ?_
      exact q i ⟨hne, hem⟩ p3 H4 (fresh_back ((e1.trans eH).trans e3) np3) (((e1.trans eH).trans e3).trans e4) hp4
end
end K24
namespace K24
open PySem PySem.Spec PyProof.Rows L2 Evl Qt
/-- the lists of rows of each length -/
def Lvs (m : Str) (n : Nat) (H : Hp) (ls : List V) (c : Nat) : Prop := ls.length = c ∧ ∀ i, i < c → ∃ q, ls[i]? = some (.ref q) ∧ H q = some (.lst (tS (levM m n i)))
theorem tS_strs (rs : List (List Nat)) : tS rs = (rs.map txt).map V.str := by
  unfold tS
  rw [List.map_map]
  rfl
theorem sgn_in {n : Nat} (h : n ≤ 4) {c : Nat} (hc : c ∈ (sgn n).cps.toList) : c ∈ [97, 98, 99, 100] := by
  rw [sgn_l h] at hc
  exact List.mem_of_mem_take hc
theorem views_vws (m : Str) (u : List Nat) : viewsM (txt u) m = (vws (openM m) m.length u).map txt := by
  unfold viewsM vws
  rw [List.map_map, txt_len]
  refine List.map_congr_left fun i _ => ?_
  show viewM (txt u) (openM m) i = txt (vw (openM m) u i)
  unfold viewM vw
  rw [txt_l]
theorem nodup_txt {l : List (List Nat)} : (l.map txt).Nodup ↔ l.Nodup := by
  constructor
  · intro h
    unfold List.Nodup at h ⊢
    rw [List.pairwise_map] at h
    exact h.imp fun hne e => hne (congrArg txt e)
  · intro h
    unfold List.Nodup at h ⊢
    rw [List.pairwise_map]
    exact h.imp fun hne e => hne (txt_inj e)
section
variable {P : Program} {w : World} {K : PySem.W.Frag} {mg : Str → Option Value} {base : Heap} {CM CV CG fG CK fK a_SMALL_WIDTH a_SMALL_SEEN : Addr}
theorem ok_long_rows (e : Ent K mg "longest_rows" s_longest_rows p_longest_rows) (T : Top K mg CM CV CG fG CK fK a_SMALL_WIDTH a_SMALL_SEEN) (c1 : Cal P w K mg base CX0 4 "check_small" p_check_small spSmall) (c2 : CalD P w K mg base CX0 8 "farthest_rows" p_farthest_rows spFar 1) : Cal P w K mg base CX0 9 "longest_rows" p_longest_rows spLongRows := by
  obtain ⟨f, fd, F, m_, b_⟩ := e
  obtain ⟨f_check_small, fd_check_small, G_check_small, m_check_small, k_check_small, b_check_small⟩ := c1
  obtain ⟨f_farthest_rows, fd_farthest_rows, ds_farthest_rows, G_farthest_rows, m_farthest_rows, k_farthest_rows, b_farthest_rows, vd_farthest_rows, bd_farthest_rows⟩ := c2
  refine ⟨f, fd, F.ok sc_longest_rows (fun vs H Q E h => ?_) (fun cdv A outer s H vs Q E hr h => ?_), m_, F.kp, b_⟩
  · obtain ⟨m, n, rfl, _⟩ := h
    rfl
  · obtain ⟨m, n, rfl, hsm, q⟩ := h
    refine ⟨_, (pss_cons (ps_expr (pe_call G_check_small (hr.mono (by decide)) (by rfl) m_check_small k_check_small b_check_small .nil pass0 (pa_cons (pv 0) (pa_cons (pv 1) pa_nil))))
      (pss_one (ps_ret (pe_call G_farthest_rows (hr.mono (by decide)) (by rfl) m_farthest_rows k_farthest_rows bd_farthest_rows vd_farthest_rows pass0 (pa_cons pe_str (pa_cons (pv 0) (pa_cons (pv 1) pa_nil))))))), ?_⟩
    refine ⟨_, rfl, _, rfl, m, n, rfl, hsm, fun H1 e1 => ?_⟩
    exact ⟨_, rfl, _, rfl, [], m, n, 1, by rw [nil_txt]; rfl, hsm, Nat.le_refl _, row_ok_nil hsm.1, fun k hk p H2 np e2 hp => q k hk p H2 (fresh_back e1 np) (e1.trans e2) hp⟩
theorem ok_longest (e : Ent K mg "longest" s_longest p_longest) (T : Top K mg CM CV CG fG CK fK a_SMALL_WIDTH a_SMALL_SEEN) (c1 : Cal P w K mg base CX0 9 "longest_rows" p_longest_rows spLongRows) : Cal P w K mg base CX0 10 "longest" p_longest spLongest := by
  obtain ⟨f, fd, F, m_, b_⟩ := e
  obtain ⟨f_longest_rows, fd_longest_rows, G_longest_rows, m_longest_rows, k_longest_rows, b_longest_rows⟩ := c1
  refine ⟨f, fd, F.ok sc_longest (fun vs H Q E h => ?_) (fun cdv A outer s H vs Q E hr h => ?_), m_, F.kp, b_⟩
  · obtain ⟨m, n, rfl, _⟩ := h
    rfl
  · obtain ⟨m, n, rfl, hsm, q⟩ := h
    refine ⟨_, (pss_one (ps_ret (pe_callB call_len_str (by rfl) T.m_len (by decide +kernel) (pa_cons (pe_ix ix_list (pe_call G_longest_rows (hr.mono (by decide)) (by rfl) m_longest_rows k_longest_rows b_longest_rows .nil pass0 (pa_cons (pv 0) (pa_cons (pv 1) pa_nil))) pe_int (fun _ _ => rfl)) pa_nil)))), ?_⟩
    refine ⟨_, rfl, _, rfl, m, n, rfl, hsm, fun k hk p H2 np e2 hp => ?_⟩
    cases el : levM m n k with
    | nil => exact absurd el hk.1
    | cons r t =>
      obtain ⟨hlen, _, _⟩ := lev_each (isMask_len hsm.1).1 (show r ∈ levM m n k by rw [el]; exact List.mem_cons_self)
      have hkk := topM_le hsm hk.1
      have htop := hsm.top
      rw [el] at hp
      refine ⟨p, _, 0, .str (txt r), rfl, rfl, sq_of hp, (atI_nat (j := 0) rfl : atI (tS (r :: t)) ((0 : Nat) : Int) = _), txt r, rfl, by rw [txt_len, sizeLine_eq]; omega, ?_⟩
      rw [txt_len, hlen]
      exact q k hk H2 e2
end
end K24
namespace K24
open PySem PySem.Spec PyProof.Rows L2 Evl Qt
def sL (k : List Nat) : List V := k.map fun c => V.str ⟨#[c]⟩
def clB (s c : Nat) : Bool := !(decide (s = 63) || decide (c = 63)) && !decide (s = c)
def pairsOf (z : Str) (l : List Nat) (st : Nat) : List (Nat × Nat) := (List.range z.length).map fun i => (z.cps.toList.getD i 0, st + l.getD i 0)
def setB (k : List Nat) (s a : Nat) : List Nat := if s = 63 then k else k.set a s
def layAll (k : List Nat) : List (Nat × Nat) → Option (List Nat)
  | [] => some k
  | (s, a) :: r => if clB s (k.getD a 0) = true then none else layAll (setB k s a) r
def putM (l : List Nat) (k : List Nat) : List Str → Nat → List Nat × Option Nat
  | [], _ => (k, none)
  | z :: r, st => match layAll k (pairsOf z l st) with
    | none => (k, some st)
    | some k' => putM l k' r (st + 1)
def jV : List Nat × Option Nat → V
  | (k, none) => .str (txt k)
  | (_, some _) => .non
def cV : List Nat × Option Nat → V
  | (_, none) => .non
  | (_, some s) => .int (s : Int)
def layV : Option (List Nat) → V
  | none => .non
  | some k => .str (txt k)
def RetU (xs : List V) (H : Hp) (Q : VK) : Prop := ∀ p H2, H p = none → Ex H H2 → H2 p = some (.tup xs) → Q (.ref p) H2
def spCheckLooks (K : PySem.W.Frag) : Sp := fun vs H Q _ => ∃ (a : Addr) (m : Str) (zs : List Str), vs = [.ref a, .str m] ∧ m.length ≤ 12 ∧ SqA K H a (zs.map V.str) ∧ 1 ≤ zs.length ∧ zs.length ≤ 60 ∧ (∀ z ∈ zs, isLook m (.str z) = true) ∧ RetV .non H Q
def spLaid (K : PySem.W.Frag) : Sp := fun vs H Q _ => ∃ (k : List Nat) (z : Str) (a : Addr) (l : List Nat) (st : Nat), vs = [.str (txt k), .str z, .ref a, .int (st : Int)] ∧ SqL K H a (natsV l) ∧ l.length = z.length ∧ (∀ p ∈ l, st + p < k.length) ∧ k.length ≤ 1000 ∧ RetV (layV (layAll k (pairsOf z l st))) H Q
def spUnknown (K : PySem.W.Frag) : Sp := fun vs H Q _ => ∃ (m : Str) (a : Addr) (xs : List V), vs = [.str m, .ref a] ∧ SqA K H a xs ∧ 1 ≤ xs.length ∧ xs.length ≤ 60 ∧ 1 ≤ m.length ∧ m.length ≤ 12 ∧ RetV (.str (txt (List.replicate (xs.length + m.length - 1) 63))) H Q
def putOf (m : Str) (zs : List Str) : List Nat × Option Nat := putM (openM m) (List.replicate (zs.length + m.length - 1) 63) zs 0
def spPut (K : PySem.W.Frag) : Sp := fun vs H Q _ => ∃ (m : Str) (a : Addr) (zs : List Str), vs = [.str m, .ref a] ∧ isMask m = true ∧ SqA K H a (zs.map V.str) ∧ 1 ≤ zs.length ∧ zs.length ≤ 60 ∧ (∀ z ∈ zs, isLook m (.str z) = true) ∧ RetU [jV (putOf m zs), cV (putOf m zs)] H Q
def spOneOf (K : PySem.W.Frag) (g : List Nat × Option Nat → V) : Sp := fun vs H Q _ => ∃ (m : Str) (a : Addr) (zs : List Str), vs = [.str m, .ref a] ∧ isMask m = true ∧ SqA K H a (zs.map V.str) ∧ 1 ≤ zs.length ∧ zs.length ≤ 60 ∧ (∀ z ∈ zs, isLook m (.str z) = true) ∧ RetV (g (putOf m zs)) H Q
theorem dec_sign {a b : Nat} : decide (V.str (⟨#[a]⟩ : Str) = V.str ⟨#[b]⟩) = decide (a = b) := by
  by_cases h : a = b
  · subst h; simp
  · simp [h]
theorem inV_two {x a b : Nat} : inV (.str ⟨#[x]⟩) [.str (⟨#[a]⟩ : Str), .str ⟨#[b]⟩] = (decide (a = x) || decide (b = x)) := by
  have g : ∀ u v : Nat, ((⟨#[u]⟩ : Str) == ⟨#[v]⟩) = decide (u = v) := fun u v => by
    rw [Bool.eq_iff_iff, beq_iff_eq, decide_eq_true_iff]
    constructor
    · intro h; injection h with h; simpa using h
    · intro h; rw [h]
  unfold inV
  show (((⟨#[a]⟩ : Str) == ⟨#[x]⟩) || (((⟨#[b]⟩ : Str) == ⟨#[x]⟩) || false)) = _
  rw [g, g, Bool.or_false]
theorem pairs_len (z : Str) (l : List Nat) (st : Nat) : (pairsOf z l st).length = z.length := by
  unfold pairsOf
  rw [List.length_map, List.length_range]
theorem pairs_drop {z : Str} {l : List Nat} {st i : Nat} (h : i < z.length) : (pairsOf z l st).drop i = (z.cps.toList.getD i 0, st + l.getD i 0) :: (pairsOf z l st).drop (i + 1) := by
  rw [List.drop_eq_getElem_cons (by rw [pairs_len]; exact h)]
  congr 1
  unfold pairsOf
  rw [List.getElem_map, List.getElem_range]
theorem setB_len (k : List Nat) (s a : Nat) : (setB k s a).length = k.length := by
  unfold setB
  split
  · rfl
  · exact List.length_set ..
theorem lay_len : ∀ {ps : List (Nat × Nat)} {k k' : List Nat}, layAll k ps = some k' → k'.length = k.length
  | [], k, k', h => by cases h; rfl
  | (s, a) :: r, k, k', h => by
    unfold layAll at h
    split at h
    · cases h
    · rw [lay_len h, setB_len]
theorem sL_len (k : List Nat) : (sL k).length = k.length := List.length_map ..
theorem sL_at {k : List Nat} {a : Nat} (h : a < k.length) : atI (sL k) (a : Int) = some (.str ⟨#[k.getD a 0]⟩) := atI_nat (by
  unfold sL
  rw [List.getElem?_map, List.getElem?_eq_getElem h, List.getD_eq_getElem?_getD, List.getElem?_eq_getElem h]
  rfl)
theorem sL_set (k : List Nat) (a s : Nat) : (sL k).set a (.str ⟨#[s]⟩) = sL (k.set a s) := by
  unfold sL
  rw [List.map_set]
theorem rv_in2 {K : PySem.W.Frag} {H : Hp} {x a b : Nat} {q : Str} (hq : q = ⟨#[x]⟩) {p : Addr} (h : H p = some (.tup [.str ⟨#[a]⟩, .str ⟨#[b]⟩])) : RV (rIn K true) (.str q) (.ref p) H (.bl (!(decide (a = x) || decide (b = x)))) := by
  subst hq
  rw [← inV_two]
  exact rv_niT (st_of h) rfl rfl
theorem text_signs (k : List Nat) : ((txt k).cps.toList.map fun c => V.str (⟨#[c]⟩ : Str)) = sL k := by rw [txt_l]; rfl
theorem el_listS {σ : L2.St} {H : Hp} {te : TE} {k : List Nat} (h : Ev te σ H (.str (txt k))) (hz : k.length ≤ 1000) : EvL (tCB (fun xs H Q => ∃ z : Str, xs = [.str z] ∧ z.length ≤ 100000 ∧ ∀ l, H l = none → Q (.ref l) (upd H l (.lst (z.cps.toList.map fun c => V.str ⟨#[c]⟩)))) (tCons te tNil)) σ H (sL k) := fun H1 e Q q =>
  h H1 e _ fun H2 e2 => ⟨txt k, rfl, by rw [txt_len]; omega, fun l hl => by
    rw [text_signs]
    exact q l _ (fresh_back e2 hl) (e2.trans (Ex.new hl)) upd_same⟩
theorem ev_joinV {σ : L2.St} {H : Hp} {te : TE} {K : PySem.W.Frag} {a : Addr} {k : List Nat} {sep : Str} (hs : sep.cps.toList = []) (h : Ev te σ H (.ref a)) (hx : SqL K H a (sL k)) (hz : k.length ≤ 100000) :
    Ev (tM1 (fun x xs H Q => ∃ a p, ∃ ys : List Str, x = .str a ∧ xs = [.ref p] ∧ (SqL K H p (ys.map V.str) ∨ SqT K H p (ys.map V.str)) ∧ (ys.map (·.length)).sum + ys.length * a.length ≤ 16777216 ∧ Q (.str (Txt.join a ys)) H) (tC (.str sep)) te) σ H (.str (txt k)) := fun H1 e Q q =>
  ⟨⟨sep, rfl⟩, h H1 e _ fun H2 e2 => ⟨sep, a, k.map (fun c => (⟨#[c]⟩ : Str)), rfl, rfl, .inl (by rw [List.map_map]; exact ex_l (e.trans e2) hx), by
    have e0 : sep.length = 0 := by rw [← len_l, hs]; rfl
    rw [e0, sum_signs]
    omega, by
    rw [join_signs hs]
    exact q H2 e2⟩⟩
theorem clB_eq (s c : Nat) : (!(decide (s = 63) || decide (c = 63)) && !decide (s = c)) = clB s c := rfl
theorem setB_no {k : List Nat} {s a : Nat} (h : s = 63) : setB k s a = k := if_pos h
theorem setB_yes {k : List Nat} {s a : Nat} (h : s ≠ 63) : setB k s a = k.set a s := if_neg h
theorem lay_step {z : Str} {l : List Nat} {st i : Nat} (k : List Nat) (h : i < z.length) : layAll k ((pairsOf z l st).drop i) = if clB (z.cps.toList.getD i 0) (k.getD (st + l.getD i 0) 0) = true then none else layAll (setB k (z.cps.toList.getD i 0) (st + l.getD i 0)) ((pairsOf z l st).drop (i + 1)) := by
  rw [pairs_drop h]
  rfl
theorem lay_end {z : Str} {l : List Nat} {st : Nat} (k : List Nat) : layAll k ((pairsOf z l st).drop z.length) = some k := by
  rw [← pairs_len z l st, List.drop_length]
  rfl
theorem look_lens {m : Str} {zs : List Str} {i : Nat} {y : V} (hz : ∀ z ∈ zs, isLook m (.str z) = true) (h : (zs.map V.str)[i]? = some y) : ∃ z, y = .str z ∧ isLook m (.str z) = true ∧ i < zs.length ∧ zs.drop i = z :: zs.drop (i + 1) := by
  rw [List.getElem?_map] at h
  cases e : zs[i]? with
  | none => rw [e] at h; cases h
  | some z =>
    rw [e] at h
    have hi := (List.getElem?_eq_some_iff.mp e).1
    have hg := (List.getElem?_eq_some_iff.mp e).2
    refine ⟨z, (Option.some.inj h).symm, hz z (List.mem_of_getElem? e), hi, ?_⟩
    rw [List.drop_eq_getElem_cons hi, hg]
theorem put_step {l k : List Nat} {z : Str} {r : List Str} {st : Nat} : putM l k (z :: r) st = match layAll k (pairsOf z l st) with
    | none => (k, some st)
    | some k' => putM l k' r (st + 1) := rfl
theorem dec_isN {o : Option (List Nat)} : decide (layV o = .non) = o.isNone := by
  cases o with
  | none => rfl
  | some k => exact decide_eq_false (fun z => by cases z)
theorem rv_isN {H : Hp} {x : V} : RV (fun x y H Q => y = .non ∧ Q (.bl (decide (x = .non))) H) x .non H (.bl (decide (x = .non))) := fun H1 _ _ q => ⟨rfl, q H1 (Ex.refl H1)⟩
section
variable {P : Program} {w : World} {K : PySem.W.Frag} {mg : Str → Option Value} {base : Heap} {CM CV CG fG CK fK a_SMALL_WIDTH a_SMALL_SEEN : Addr}
theorem ok_check_looks (e : Ent K mg "check_looks" s_check_looks p_check_looks) (T : Top K mg CM CV CG fG CK fK a_SMALL_WIDTH a_SMALL_SEEN) (c1 : Cal P w K mg base CX0 2 "is_look" p_is_look (spIsLook K)) : Cal P w K mg base CX0 3 "check_looks" p_check_looks (spCheckLooks K) := by
  obtain ⟨f, fd, F, m_, b_⟩ := e
  obtain ⟨f_is_look, fd_is_look, G_is_look, m_is_look, k_is_look, b_is_look⟩ := c1
  refine ⟨f, fd, F.ok sc_check_looks (fun vs H Q E h => ?_) (fun cdv A outer s H vs Q E hr h => ?_), m_, F.kp, b_⟩
  · obtain ⟨a, m, zs, rfl, _⟩ := h
    rfl
  · obtain ⟨a, m, zs, rfl, hm, ha, h1, h60, hz, q⟩ := h
    have l2 := open_len m
    refine ⟨_, (pss_cons (ps_if (PW.pt (pw_or (pt_not (pt_val (pe_callB call_isiT (by rfl) T.m_isinstance (by decide +kernel) (pa_cons (pv 0) (pa_cons (pe_tup (pa_cons (pe_bltn (v := .ty "list") (by rfl) T.m_list (by decide +kernel) rfl) (pa_cons (pe_bltn (v := .ty "tuple") (by rfl) T.m_tuple (by decide +kernel) rfl) pa_nil))) pa_nil))))) (pw_or1 (pt_not (pt_chain op_le op_le pe_int (pe_callB call_len (by rfl) T.m_len (by decide +kernel) (pa_cons (pv 0) pa_nil)) (pe_glob (v := .int 60) (by rfl) T.g_MOST_LOOKS.choose_spec ⟨_, rfl⟩)))))) (pss_one ps_never) pss_nil)
      (pss_one (ps_for PassesOwn.never rfl (pi_enumA (by rfl) T.m_enumerate (pa_cons (pv 0) pa_nil)) (pg_tup (by rfl) (pgs_cons (pg_name (i := 2) sc_check_looks.nd rfl (Or.inl rfl)) (pgs_cons (pg_name (i := 3) sc_check_looks.nd rfl (Or.inl rfl)) pgs_nil))) (pss_one (ps_if (pt_not (pt_val (pe_call G_is_look (hr.mono (by decide)) (by rfl) m_is_look k_is_look b_is_look .nil pass0 (pa_cons (pv 3) (pa_cons (pv 1) pa_nil))))) (pss_one ps_never) pss_nil))))), ?_⟩
    refine q_when (b := !true || !(decide ((1 : Int) ≤ ((zs.map V.str).length : Int)) && decide (((zs.map V.str).length : Int) ≤ 60))) (et_or (et_not (a := true) (et_B ?_)) fun _ => et_not (et_test (ev_chain ev_c (ev_cb (ea_cons (ev_var rfl) ea_nil) (rc_lenA ha)) rv_I0 ev_c fun _ => rv_I0))) (fun h => ?_) (fun _ H1 e1 => ?_)
    · intro H1 e1 Q1 q1
      refine ⟨_, rfl, by show 2 ≤ sizeLine; decide, fun t nt => ?_⟩
      have ex := Ex.new (o := .tup [.ty "list", .ty "tuple"]) nt
      rcases (ha.ex e1).ex ex with ha1 | ha1
      · exact ⟨.ref a, t, _, .type "list", _, true, rfl, upd_same, tys_are2, .base (.lst ha1), kit_l, q1 _ ex⟩
      · exact ⟨.ref a, t, _, .type "tuple", _, true, rfl, upd_same, tys_are2, .base (.tup ha1), kit_t, q1 _ ex⟩
    · rw [List.length_map, decide_eq_true (show (1 : Int) ≤ (zs.length : Int) by omega), decide_eq_true (show (zs.length : Int) ≤ 60 by omega)] at h
      cases h
    · refine s_forEA (xs := zs.map V.str) (j := 2) (k := 3) (ea_cons (ev_var rfl) ea_nil) (ha.ex e1) (fun i σ' H' => Ex H1 H' ∧ ∃ x2 x3, σ' = [some (.ref a), some (.str m), x2, x3]) (fun H2 e2 => ⟨e2, _, _, rfl⟩) (fun i σ' H' _ p => p.1) (fun i x σ' H' T hx p nT => ?_) (fun σ' H' p => ?_)
      · obtain ⟨eH, x2, x3, rfl⟩ := p
        obtain ⟨z, rfl, hlk, _⟩ := look_lens hz hx
        have lz := look_len hlk
        refine s_when (b := !isLook m (.str z)) (et_not (et_B (ev_call (ea_cons (ev_var rfl) (ea_cons (ev_var rfl) ea_nil)) fun G e Q q E => ⟨.str z, m, rfl, .str (by omega), by omega, q⟩))) (fun h => ?_) (fun _ H2 e2 => ⟨(eH.trans (Ex.new nT)).trans e2, _, _, rfl⟩)
        rw [hlk] at h
        cases h
      · exact q H' (e1.trans p.1)
theorem ok_laid_on (e : Ent K mg "laid_on" s_laid_on p_laid_on) (T : Top K mg CM CV CG fG CK fK a_SMALL_WIDTH a_SMALL_SEEN) : Cal P w K mg base CX0 1 "laid_on" p_laid_on (spLaid K) := by
  obtain ⟨f, fd, F, m_, b_⟩ := e
  refine ⟨f, fd, F.ok sc_laid_on (fun vs H Q E h => ?_) (fun cdv A outer s H vs Q E hr h => ?_), m_, F.kp, b_⟩
  · obtain ⟨k, z, a, l, st, rfl, _⟩ := h
    rfl
  · obtain ⟨k0, z, a, l, st, rfl, ha, hl, hp, hk, q⟩ := h
    refine ⟨_, (pss_cons (ps_set (i := 4) sc_laid_on.nd rfl (Or.inl rfl) (pe_callTy (call_list_text rfl) (by rfl) T.m_list (by decide +kernel) (pa_cons (pv 0) pa_nil)))
      (pss_cons (ps_for PassesOwn.never rfl (pi_zipM (by rfl) T.m_zip (pa_cons (pv 1) (pa_cons (pv 2) pa_nil))) (pg_tup (by rfl) (pgs_cons (pg_name (i := 5) sc_laid_on.nd rfl (Or.inl rfl)) (pgs_cons (pg_name (i := 6) sc_laid_on.nd rfl (Or.inl rfl)) pgs_nil))) (pss_cons (ps_set (i := 7) sc_laid_on.nd rfl (Or.inl rfl) (pe_op op_add (pv 3) (pv 6)))
      (pss_cons (ps_if (PW.pt (pw_and (pt_cmpR op_notIn_seq (pe_glob (v := .str (PySem.Str.ofString "?")) (by rfl) T.g_UNREAD.choose_spec ⟨_, rfl⟩) (pe_tup (pa_cons (pv 5) (pa_cons (pe_ix ix_list (pv 4) (pv 7) (fun _ _ => rfl)) pa_nil))) (by rfl)) (pw_and1 (pt_cmpR op_ne (pv 5) (pe_ix ix_list (pv 4) (pv 7) (fun _ _ => rfl)) (nomark _))))) (pss_one (ps_ret pe_non)) pss_nil)
      (pss_one (ps_if (pt_cmpR op_ne (pv 5) (pe_glob (v := .str (PySem.Str.ofString "?")) (by rfl) T.g_UNREAD.choose_spec ⟨_, rfl⟩) (nomark _)) (pss_one (ps_asg (pv 5) (pg_sub (pv 4) (pv 7) set_list))) pss_nil)))))
      (pss_one (ps_ret (pe_join pe_str (pv 4)))))), ?_⟩
    refine q_asgL (xs := sL k0) (el_listS (ev_var rfl) hk) fun D H1 nD e1 hD => ?_
    refine q_forZM (x := z) (b := a) (ys := natsV l) (j := 5) (k := 6) (ea_cons (ev_var rfl) (ea_cons (ev_var rfl) ea_nil)) (fun H2 e2 => ex_l (e1.trans e2) ha) (by rw [natsV_len]; exact hl)
      (fun i σ' H' => Ex H H' ∧ ∃ (k : List Nat) (x5 x6 x7 : Option V), H' D = some (.lst (sL k)) ∧ k.length = k0.length ∧ layAll k0 (pairsOf z l st) = layAll k ((pairsOf z l st).drop i) ∧ σ' = [some (.str (txt k0)), some (.str z), some (.ref a), some (.int (st : Int)), some (.ref D), x5, x6, x7])
      (fun H2 e2 => ⟨e1.trans e2, k0, _, _, _, e2 _ _ hD, rfl, rfl, rfl⟩) (fun i σ' H' _ p => ex_l p.1 ha) (fun i y σ' H' T hi hy p nT => ?_) (fun σ' H' p => ?_)
    · obtain ⟨eH, k, x5, x6, x7, hD, hkl, hlay, rfl⟩ := p
      obtain ⟨hil, rfl⟩ := natsV_get hy
      have hat := hp _ (mem_getDL (d := 0) hil)
      have eT := Ex.new (o := .tup [sg z i, .int ((l.getD i 0 : Nat) : Int)]) nT
      have hD2 := eT _ _ hD
      have eH2 := eH.trans eT
      generalize upd H' T (.tup [sg z i, .int ((l.getD i 0 : Nat) : Int)]) = G at hD2 eH2 ⊢
      rw [lay_step k hi] at hlay
      refine q_asg (v := .int ((st + l.getD i 0 : Nat) : Int)) (ev_is (ev_op (ev_var rfl) (ev_var rfl) rv_I0) (by rw [sum_nat])) fun G1 g1 => ?_
      have cur : ∀ {G2 : Hp}, Ex G1 G2 → RV (rIxL K) (.ref D) (.int ((st + l.getD i 0 : Nat) : Int)) G2 (.str ⟨#[k.getD (st + l.getD i 0) 0]⟩) := fun g2 => rv_ixL (sq_of (g2 _ _ (g1 _ _ hD2))) (sL_at (by omega))
      refine q_when (b := clB (z.cps.toList.getD i 0) (k.getD (st + l.getD i 0) 0)) (et_is (et_and (et_test (ev_opU (xs := [sg z i, .str ⟨#[k.getD (st + l.getD i 0) 0]⟩]) ev_c (eu_tup (ea_cons (ev_var rfl) (ea_cons (ev_op (ev_var rfl) (ev_var rfl) (cur (Ex.refl _))) ea_nil)) (by simp)) fun p G2 hp2 e2 => rv_in2 q_eq hp2)) fun _ => et_test (ev_is (ev_op (ev_var rfl) (ev_op (ev_var rfl) (ev_var rfl) (cur (Ex.refl _))) (rv_ne rfl)) (by rw [show sg z i = V.str ⟨#[z.cps.toList.getD i 0]⟩ from rfl, dec_sign]))) (clB_eq _ _)) (fun h G2 g2 => ?_) (fun h G2 g2 => ?_)
      · rw [h, if_pos rfl] at hlay
        rw [hlay] at q
        exact s_ret ev_c fun G3 g3 => q G3 (((eH2.trans g1).trans g2).trans g3)
      · rw [h, if_neg (by decide)] at hlay
        have hD4 := g2 _ _ (g1 _ _ hD2)
        refine s_when (b := !decide (z.cps.toList.getD i 0 = 63)) (et_test (ev_is (ev_op (ev_var rfl) ev_c (rv_ne rfl)) (by rw [q_eq, show sg z i = V.str ⟨#[z.cps.toList.getD i 0]⟩ from rfl, dec_sign]))) (fun hs G3 g3 => ?_) (fun hs G3 g3 => ?_)
        · have hs' : z.cps.toList.getD i 0 ≠ 63 := by simpa using hs
          refine s_setL (j := st + l.getD i 0) (g3 _ _ hD4) (ev_var rfl) (ev_var rfl) (ev_var rfl) (by rw [sL_len]; omega) fun G4 g4 => ?_
          refine ⟨Ex.mut ((((eH2.trans g1).trans g2).trans g3).trans g4) nD, k.set (st + l.getD i 0) (z.cps.toList.getD i 0), _, _, _, ?_, by rw [List.length_set]; exact hkl, by rw [hlay, setB_yes hs'], rfl⟩
          rw [upd_same]
          exact congrArg (fun x => some (HO.lst x)) (sL_set k _ _)
        · have hs' : z.cps.toList.getD i 0 = 63 := by simpa using hs
          exact ⟨((eH2.trans g1).trans g2).trans g3, k, _, _, _, g3 _ _ hD4, hkl, by rw [hlay, setB_no hs'], rfl⟩
    · obtain ⟨eH, k, x5, x6, x7, hD, hkl, hlay, rfl⟩ := p
      rw [lay_end] at hlay
      rw [hlay] at q
      exact s_ret (ev_joinV nil_l (ev_var rfl) (sq_of hD) (by omega)) fun G3 g3 => q G3 (eH.trans g3)
theorem ok_unknown (e : Ent K mg "unknown_row" s_unknown_row p_unknown_row) (T : Top K mg CM CV CG fG CK fK a_SMALL_WIDTH a_SMALL_SEEN) : Cal P w K mg base CX0 6 "unknown_row" p_unknown_row (spUnknown K) := by
  obtain ⟨f, fd, F, m_, b_⟩ := e
  refine ⟨f, fd, F.ok sc_unknown_row (fun vs H Q E h => ?_) (fun cdv A outer s H vs Q E hr h => ?_), m_, F.kp, b_⟩
  · obtain ⟨m, a, xs, rfl, _⟩ := h
    rfl
  · obtain ⟨m, a, xs, rfl, ha, h1, h60, m1, m12, q⟩ := h
    refine ⟨_, (pss_one (ps_ret (pe_op op_mulS (pe_glob (v := .str (PySem.Str.ofString "?")) (by rfl) T.g_UNREAD.choose_spec ⟨_, rfl⟩) (pe_op op_sub (pe_op op_add (pe_callB call_len (by rfl) T.m_len (by decide +kernel) (pa_cons (pv 1) pa_nil)) (pe_callB call_len_str (by rfl) T.m_len (by decide +kernel) (pa_cons (pv 0) pa_nil))) pe_int)))), ?_⟩
    refine s_ret (ev_is (ev_op (y := .int ((xs.length + m.length - 1 : Nat) : Int)) ev_c (ev_is (ev_op (ev_op (ev_cb (ea_cons (ev_var rfl) ea_nil) (rc_lenA ha)) (ev_cb (ea_cons (ev_var rfl) ea_nil) (rc_lenS (by omega))) rv_I0) ev_c rv_I0) ?_) (rv_mulS (by omega) (by decide +kernel))) ?_) q
    · show V.int ((xs.length : Int) + (m.length : Int) - 1) = V.int ((xs.length + m.length - 1 : Nat) : Int)
      congr 1
      omega
    · congr 1
      apply str_ext
      rw [q_eq, repS_toList, txt_l]
      generalize xs.length + m.length - 1 = n
      induction n with
      | zero => rfl
      | succ n ih =>
        rw [List.replicate_succ, List.flatten_cons, ih, List.replicate_succ]
        rfl
theorem ok_put (e : Ent K mg "put_in_order" s_put_in_order p_put_in_order) (T : Top K mg CM CV CG fG CK fK a_SMALL_WIDTH a_SMALL_SEEN) (c1 : Cal P w K mg base CX0 4 "seen" p_seen (spSeen0 K)) (c2 : Cal P w K mg base CX0 3 "check_looks" p_check_looks (spCheckLooks K))
    (c3 : Cal P w K mg base CX0 6 "unknown_row" p_unknown_row (spUnknown K)) (c4 : Cal P w K mg base CX0 1 "laid_on" p_laid_on (spLaid K)) : Cal P w K mg base CX0 7 "put_in_order" p_put_in_order (spPut K) := by
  obtain ⟨f, fd, F, m_, b_⟩ := e
  obtain ⟨f_seen, fd_seen, G_seen, m_seen, k_seen, b_seen⟩ := c1
  obtain ⟨f_check_looks, fd_check_looks, G_check_looks, m_check_looks, k_check_looks, b_check_looks⟩ := c2
  obtain ⟨f_unknown_row, fd_unknown_row, G_unknown_row, m_unknown_row, k_unknown_row, b_unknown_row⟩ := c3
  obtain ⟨f_laid_on, fd_laid_on, G_laid_on, m_laid_on, k_laid_on, b_laid_on⟩ := c4
  refine ⟨f, fd, F.ok sc_put_in_order (fun vs H Q E h => ?_) (fun cdv A outer s H vs Q E hr h => ?_), m_, F.kp, b_⟩
  · obtain ⟨m, a, zs, rfl, _⟩ := h
    rfl
  · obtain ⟨m, a, zs, rfl, hm, ha, h1, h60, hz, q⟩ := h
    have l1 := isMask_len hm
    have l2 := open_len m
    refine ⟨_, (pss_cons (ps_set (i := 2) sc_put_in_order.nd rfl (Or.inl rfl) (pe_call G_seen (hr.mono (by decide)) (by rfl) m_seen k_seen b_seen .nil pass0 (pa_cons (pv 0) pa_nil)))
      (pss_cons (ps_expr (pe_call G_check_looks (hr.mono (by decide)) (by rfl) m_check_looks k_check_looks b_check_looks .nil pass0 (pa_cons (pv 1) (pa_cons (pv 0) pa_nil))))
      (pss_cons (ps_set (i := 3) sc_put_in_order.nd rfl (Or.inl rfl) (pe_call G_unknown_row (hr.mono (by decide)) (by rfl) m_unknown_row k_unknown_row b_unknown_row .nil pass0 (pa_cons (pv 0) (pa_cons (pv 1) pa_nil))))
      (pss_cons (ps_for PassesOwn.never rfl (pi_enumA (by rfl) T.m_enumerate (pa_cons (pv 1) pa_nil)) (pg_tup (by rfl) (pgs_cons (pg_name (i := 4) sc_put_in_order.nd rfl (Or.inl rfl)) (pgs_cons (pg_name (i := 5) sc_put_in_order.nd rfl (Or.inl rfl)) pgs_nil))) (pss_cons (ps_set (i := 3) sc_put_in_order.nd rfl (Or.inl rfl) (pe_call G_laid_on (hr.mono (by decide)) (by rfl) m_laid_on k_laid_on b_laid_on .nil pass0 (pa_cons (pv 3) (pa_cons (pv 5) (pa_cons (pv 2) (pa_cons (pv 4) pa_nil))))))
      (pss_one (ps_if (pt_cmpR op_isN (pv 3) pe_non (nomark _)) (pss_one (ps_ret (pe_tup (pa_cons pe_non (pa_cons (pv 4) pa_nil))))) pss_nil))))
      (pss_one (ps_ret (pe_tup (pa_cons (pv 3) (pa_cons pe_non pa_nil))))))))), ?_⟩
    refine q_asgL (xs := natsV (openM m)) (el_call (ea_cons (ev_var rfl) ea_nil) fun G e Q q E => ⟨m, rfl, hm, q⟩) fun b H1 nb e1 hb => ?_
    refine q_drop (v := .non) (ev_call (ea_cons (ev_var rfl) (ea_cons (ev_var rfl) ea_nil)) fun G e Q q E => ⟨a, m, zs, rfl, by omega, (ha.ex e1).ex e, h1, h60, hz, q⟩) fun H2 e2 => ?_
    obtain ⟨k0, hk0⟩ : ∃ k0, k0 = List.replicate (zs.length + m.length - 1) 63 := ⟨_, rfl⟩
    have hk0l : k0.length = zs.length + m.length - 1 := by rw [hk0, List.length_replicate]
    have eP : putOf m zs = putM (openM m) k0 zs 0 := by rw [hk0]; rfl
    rw [eP] at q
    refine q_asg (v := .str (txt k0)) (ev_call (ea_cons (ev_var rfl) (ea_cons (ev_var rfl) ea_nil)) fun G e Q q E => ⟨m, a, zs.map V.str, rfl, ((ha.ex e1).ex e2).ex e, by rw [List.length_map]; exact h1, by rw [List.length_map]; exact h60, by omega, by omega, by rw [List.length_map, ← hk0]; exact q⟩) fun H3 e3 => ?_
    have e03 := (e1.trans e2).trans e3
    have hb3 := e3 _ _ (e2 _ _ hb)
    refine q_forEA (xs := zs.map V.str) (j := 4) (k := 5) (ea_cons (ev_var rfl) ea_nil) (ha.ex e03) (fun i σ' H' => Ex H3 H' ∧ ∃ (k : List Nat) (x4 x5 : Option V), k.length = k0.length ∧ putM (openM m) k0 zs 0 = putM (openM m) k (zs.drop i) i ∧ σ' = [some (.str m), some (.ref a), some (.ref b), some (.str (txt k)), x4, x5])
      (fun H4 e4 => ⟨e4, k0, _, _, rfl, rfl, rfl⟩) (fun i σ' H' _ p => p.1) (fun i x σ' H' T hx p nT => ?_) (fun σ' H' p => ?_)
    · obtain ⟨eH, k, x4, x5, hkl, hput, rfl⟩ := p
      obtain ⟨z, rfl, hlk, hi, hdrop⟩ := look_lens hz hx
      have lz := look_len hlk
      rw [hdrop, put_step] at hput
      have eT := Ex.new (o := .tup [.int (i : Int), .str z]) nT
      refine q_asg (v := layV (layAll k (pairsOf z (openM m) i))) (ev_call (ea_cons (ev_var rfl) (ea_cons (ev_var rfl) (ea_cons (ev_var rfl) (ea_cons (ev_var rfl) ea_nil)))) fun G e Q q E => ⟨k, z, b, openM m, i, rfl, sq_of (e _ _ (eT _ _ (eH _ _ hb3))), lz.symm, fun p hp => by have := open_lt hp; omega, by omega, q⟩) fun G1 g1 => ?_
      have eG := ((e03.trans eH).trans eT).trans g1
      refine s_when (b := (layAll k (pairsOf z (openM m) i)).isNone) (et_test (ev_is (ev_op (ev_var rfl) ev_c rv_isN) (by rw [dec_isN]))) (fun h G2 g2 => ?_) (fun h G2 g2 => ?_)
      · cases hlay : layAll k (pairsOf z (openM m) i) with
        | some k' => rw [hlay] at h; cases h
        | none =>
          rw [hlay] at hput
          dsimp only at hput
          rw [hput] at q
          exact s_retU (eu_tup (ea_cons ev_c (ea_cons (ev_var rfl) ea_nil)) (by simp)) fun p G3 np g3 hp => q p G3 (fresh_back (eG.trans g2) np) ((eG.trans g2).trans g3) hp
      · cases hlay : layAll k (pairsOf z (openM m) i) with
        | none => rw [hlay] at h; cases h
        | some k' =>
          rw [hlay] at hput
          exact ⟨((eH.trans eT).trans g1).trans g2, k', _, _, (lay_len hlay).trans hkl, hput, rfl⟩
    · obtain ⟨eH, k, x4, x5, hkl, hput, rfl⟩ := p
      rw [List.length_map, List.drop_length] at hput
      rw [hput] at q
      exact s_retU (eu_tup (ea_cons (ev_var rfl) (ea_cons ev_c ea_nil)) (by simp)) fun p G3 np g3 hp => q p G3 (fresh_back (e03.trans eH) np) ((e03.trans eH).trans g3) hp
theorem ok_joined (e : Ent K mg "joined" s_joined p_joined) (T : Top K mg CM CV CG fG CK fK a_SMALL_WIDTH a_SMALL_SEEN) (c1 : Cal P w K mg base CX0 7 "put_in_order" p_put_in_order (spPut K)) : Cal P w K mg base CX0 8 "joined" p_joined (spOneOf K jV) := by
  obtain ⟨f, fd, F, m_, b_⟩ := e
  obtain ⟨f_put_in_order, fd_put_in_order, G_put_in_order, m_put_in_order, k_put_in_order, b_put_in_order⟩ := c1
  refine ⟨f, fd, F.ok sc_joined (fun vs H Q E h => ?_) (fun cdv A outer s H vs Q E hr h => ?_), m_, F.kp, b_⟩
  · obtain ⟨m, a, zs, rfl, _⟩ := h
    rfl
  · obtain ⟨m, a, zs, rfl, hm, ha, h1, h60, hz, q⟩ := h
    refine ⟨_, (pss_cons (ps_asg (pe_call G_put_in_order (hr.mono (by decide)) (by rfl) m_put_in_order k_put_in_order b_put_in_order .nil pass0 (pa_cons (pv 0) (pa_cons (pv 1) pa_nil))) (pg_tup (by rfl) (pgs_cons (pg_name (i := 2) sc_joined.nd rfl (Or.inl rfl)) (pgs_cons (pg_name (i := 3) sc_joined.nd rfl (Or.inl rfl)) pgs_nil))))
      (pss_one (ps_ret (pv 2)))), ?_⟩
    refine ⟨_, rfl, _, rfl, m, a, zs, rfl, hm, ha, h1, h60, hz, fun p H1 np e1 hp => ⟨p, _, rfl, st_of hp, rfl, _, _, rfl, _, _, rfl, rfl, ?_⟩⟩
    exact s_ret (ev_var rfl) fun H2 e2 => q H2 (e1.trans e2)
theorem ok_clash (e : Ent K mg "first_clash" s_first_clash p_first_clash) (T : Top K mg CM CV CG fG CK fK a_SMALL_WIDTH a_SMALL_SEEN) (c1 : Cal P w K mg base CX0 7 "put_in_order" p_put_in_order (spPut K)) : Cal P w K mg base CX0 8 "first_clash" p_first_clash (spOneOf K cV) := by
  obtain ⟨f, fd, F, m_, b_⟩ := e
  obtain ⟨f_put_in_order, fd_put_in_order, G_put_in_order, m_put_in_order, k_put_in_order, b_put_in_order⟩ := c1
  refine ⟨f, fd, F.ok sc_first_clash (fun vs H Q E h => ?_) (fun cdv A outer s H vs Q E hr h => ?_), m_, F.kp, b_⟩
  · obtain ⟨m, a, zs, rfl, _⟩ := h
    rfl
  · obtain ⟨m, a, zs, rfl, hm, ha, h1, h60, hz, q⟩ := h
    refine ⟨_, (pss_cons (ps_asg (pe_call G_put_in_order (hr.mono (by decide)) (by rfl) m_put_in_order k_put_in_order b_put_in_order .nil pass0 (pa_cons (pv 0) (pa_cons (pv 1) pa_nil))) (pg_tup (by rfl) (pgs_cons (pg_name (i := 2) sc_first_clash.nd rfl (Or.inl rfl)) (pgs_cons (pg_name (i := 3) sc_first_clash.nd rfl (Or.inl rfl)) pgs_nil))))
      (pss_one (ps_ret (pv 3)))), ?_⟩
    refine ⟨_, rfl, _, rfl, m, a, zs, rfl, hm, ha, h1, h60, hz, fun p H1 np e1 hp => ⟨p, _, rfl, st_of hp, rfl, _, _, rfl, _, _, rfl, rfl, ?_⟩⟩
    exact s_ret (ev_var rfl) fun H2 e2 => q H2 (e1.trans e2)
end
end K24
namespace K24
open PySem PySem.Spec PyProof.Rows L2 Evl Qt
abbrev Part := List Nat × List Str
def nkOf (x : Part) : NestedKey := .tup [.text (txt x.1), .tup (x.2.map NestedKey.text)]
def addP (ps : List Part) (x : Part) : List Part := if x ∈ ps then ps else ps ++ [x]
def cutAt (left : List Str) (i : Nat) : List Str := left.take i ++ left.drop (i + 1)
def eachM (l : List Nat) (st : Nat) (x : Part) (acc : List Part) (i : Nat) : List Part := match layAll x.1 (pairsOf (x.2.getD i PySem.Str.empty) l st) with
  | none => acc
  | some k => addP acc (k, cutAt x.2 i)
def lookM (l : List Nat) (st : Nat) (x : Part) (acc : List Part) (n : Nat) : List Part := (List.range n).foldl (eachM l st x) acc
def stepP (l : List Nat) (st : Nat) (ps : List Part) : List Part := ps.foldl (fun acc x => lookM l st x acc x.2.length) []
def partsM (l : List Nat) (p0 : List Part) : Nat → List Part
  | 0 => p0
  | n + 1 => stepP l n (partsM l p0 n)
theorem texts_inj : ∀ {a b : List Str}, a.map NestedKey.text = b.map NestedKey.text → a = b
  | [], [], _ => rfl
  | [], _ :: _, h => by cases h
  | _ :: _, [], h => by cases h
  | x :: r, y :: t, h => by
    rw [List.map_cons, List.map_cons] at h
    injection h with h1 h2
    injection h1 with h1
    rw [h1, texts_inj h2]
theorem nkOf_inj {x y : Part} (h : nkOf x = nkOf y) : x = y := by
  unfold nkOf at h
  injection h with h
  injection h with h1 h
  injection h with h2 h
  injection h1 with h1
  injection h2 with h2
  exact Prod.ext (by rw [← txt_l x.1, ← txt_l y.1, h1]) (texts_inj h2)
theorem depth_texts : ∀ l : List Str, NestedKey.depthAll (l.map NestedKey.text) = 0
  | [] => rfl
  | x :: r => by
    rw [List.map_cons]
    show max 0 (NestedKey.depthAll (r.map NestedKey.text)) = 0
    rw [depth_texts r]
    rfl
theorem nk_depth (x : Part) : (nkOf x).depth ≤ 8 := by
  show max 0 (max (NestedKey.depthAll (x.2.map NestedKey.text) + 1) 0) + 1 ≤ 8
  rw [depth_texts]
  decide
theorem rv_notN {H : Hp} {x : V} : RV (fun x y H Q => y = .non ∧ Q (.bl (!decide (x = .non))) H) x .non H (.bl (!decide (x = .non))) := fun H1 _ _ q => ⟨rfl, q H1 (Ex.refl H1)⟩
/-- the entries of a dict as parts -/
def PK (H : Hp) (xs : NEs) (ps : List Part) : Prop := xs.map (·.1) = ps.map nkOf ∧ NKs H xs
theorem PK.len {H : Hp} {xs : NEs} {ps : List Part} (h : PK H xs ps) : xs.length = ps.length := by
  have := congrArg List.length h.1
  rwa [List.length_map, List.length_map] at this
theorem PK.ex {H H1 : Hp} {xs : NEs} {ps : List Part} (h : PK H xs ps) (e : ∀ b ys, H b = some (.tup ys) → H1 b = some (.tup ys)) : PK H1 xs ps := ⟨h.1, h.2.ex e⟩
theorem PK.put {H : Hp} {xs : NEs} {ps : List Part} {x : Part} {b : Addr} (h : PK H xs ps) (hk : TK H (nkOf x) (.ref b)) : PK H (putN xs (nkOf x) b) (addP ps x) := by
  refine ⟨?_, h.2.put hk (nk_depth x)⟩
  unfold putN addP
  rw [h.1]
  by_cases hx : x ∈ ps
  · rw [if_pos hx, if_pos (List.mem_map.mpr ⟨x, hx, rfl⟩), h.1]
  · rw [if_neg hx, if_neg (fun hz => by
      obtain ⟨y, hy, e⟩ := List.mem_map.mp hz
      rw [nkOf_inj e] at hy
      exact hx hy), List.map_append, List.map_append, h.1]
    rfl
/-- a list of parts: each a text and a tuple of looks -/
def PtA (H : Hp) (vs : List V) (ps : List Part) : Prop := vs.length = ps.length ∧ ∀ (i : Nat) (x : Part), ps[i]? = some x → ∃ b c, vs[i]? = some (.ref b) ∧ H b = some (.tup [.str (txt x.1), .ref c]) ∧ H c = some (.tup (x.2.map V.str))
theorem PtA.ex {H H1 : Hp} {vs : List V} {ps : List Part} (h : PtA H vs ps) (e : Ex H H1) : PtA H1 vs ps := ⟨h.1, fun i x hx => by
  obtain ⟨b, c, h1, h2, h3⟩ := h.2 i x hx
  exact ⟨b, c, h1, e _ _ h2, e _ _ h3⟩⟩
theorem tks_texts {H : Hp} : ∀ {l : List Str} {vs : List V}, TKs H (l.map NestedKey.text) vs → vs = l.map V.str
  | [], _, h => by cases h; rfl
  | x :: r, _, h => by
    rw [List.map_cons] at h
    cases h with
    | cons h1 h2 =>
      cases h1
      rw [tks_texts h2]
      rfl
theorem texts_tks {H : Hp} : ∀ l : List Str, TKs H (l.map NestedKey.text) (l.map V.str)
  | [] => .nil
  | x :: r => .cons (.text x) (texts_tks r)
theorem tk_part {H : Hp} {x : Part} {b : Addr} (h : TK H (nkOf x) (.ref b)) : ∃ c, H b = some (.tup [.str (txt x.1), .ref c]) ∧ H c = some (.tup (x.2.map V.str)) := by
  unfold nkOf at h
  cases h with
  | tup h1 h2 =>
    cases h2 with
    | cons k1 k2 =>
      cases k1
      cases k2 with
      | cons k3 k4 =>
        cases k4
        cases k3 with
        | tup g1 g2 =>
          rw [tks_texts g2] at g1
          exact ⟨_, h1, g1⟩
theorem part_tk {H : Hp} {x : Part} {b c : Addr} (h1 : H b = some (.tup [.str (txt x.1), .ref c])) (h2 : H c = some (.tup (x.2.map V.str))) : TK H (nkOf x) (.ref b) :=
  .tup h1 (.cons (.text _) (.cons (.tup h2 (texts_tks _)) .nil))
theorem PK.pts {H : Hp} {xs : NEs} {ps : List Part} (h : PK H xs ps) : PtA H (xs.map fun x => V.ref x.2) ps := by
  refine ⟨by rw [List.length_map, h.len], fun i x hx => ?_⟩
  have e : (xs.map (·.1))[i]? = some (nkOf x) := by rw [h.1, List.getElem?_map, hx]; rfl
  rw [List.getElem?_map] at e
  cases hy : xs[i]? with
  | none => rw [hy] at e; cases e
  | some y =>
    rw [hy] at e
    have e' : y.1 = nkOf x := Option.some.inj e
    have tk := (h.2 y (List.mem_of_getElem? hy)).1
    rw [e'] at tk
    obtain ⟨c, h1, h2⟩ := tk_part tk
    exact ⟨y.2, c, by rw [List.getElem?_map, hy]; rfl, h1, h2⟩
theorem addP_len (ps : List Part) (x : Part) : (addP ps x).length ≤ ps.length + 1 := by
  unfold addP
  split
  · omega
  · rw [List.length_append]; simp
theorem each_len (l : List Nat) (st : Nat) (x : Part) (acc : List Part) (i : Nat) : (eachM l st x acc i).length ≤ acc.length + 1 := by
  unfold eachM
  split
  · omega
  · exact addP_len _ _
theorem lookM_succ (l : List Nat) (st : Nat) (x : Part) (acc : List Part) (n : Nat) : lookM l st x acc (n + 1) = eachM l st x (lookM l st x acc n) n := by
  unfold lookM
  rw [List.range_succ, List.foldl_append]
  rfl
theorem look_lenM (l : List Nat) (st : Nat) (x : Part) (acc : List Part) (n : Nat) : (lookM l st x acc n).length ≤ acc.length + n := by
  induction n with
  | zero => exact Nat.le_refl _
  | succ n ih =>
    rw [lookM_succ]
    have := each_len l st x (lookM l st x acc n) n
    omega
/-- a part that is well: its row so long, so many looks left, each of so many signs -/
structure Well (m : Str) (N r : Nat) (x : Part) : Prop where
  len : x.1.length = N
  left : x.2.length = r
  looks : ∀ z ∈ x.2, isLook m (.str z) = true
theorem cutAt_len {left : List Str} {i : Nat} (h : i < left.length) : (cutAt left i).length = left.length - 1 := by
  unfold cutAt
  rw [List.length_append, List.length_take, List.length_drop]
  omega
theorem cutAt_mem {left : List Str} {i : Nat} {z : Str} (h : z ∈ cutAt left i) : z ∈ left := by
  rcases List.mem_append.mp h with h | h
  · exact List.mem_of_mem_take h
  · exact List.mem_of_mem_drop h
theorem addP_mem {ps : List Part} {x y : Part} (h : y ∈ addP ps x) : y ∈ ps ∨ y = x := by
  unfold addP at h
  split at h
  · exact .inl h
  · rcases List.mem_append.mp h with h | h
    · exact .inl h
    · exact .inr (List.mem_singleton.mp h)
theorem each_well {m : Str} {N r : Nat} {l : List Nat} {st : Nat} {x : Part} {acc : List Part} {i : Nat} (hx : Well m N (r + 1) x) (hi : i < r + 1) (ha : ∀ y ∈ acc, Well m N r y) : ∀ y ∈ eachM l st x acc i, Well m N r y := by
  unfold eachM
  split
  · exact ha
  · rename_i k hk
    intro y hy
    rcases addP_mem hy with hy | rfl
    · exact ha y hy
    · exact ⟨(lay_len hk).trans hx.len, by show (cutAt x.2 i).length = r; rw [cutAt_len (by rw [hx.left]; exact hi), hx.left]; rfl, fun z hz => hx.looks z (cutAt_mem hz)⟩
theorem lookM_well {m : Str} {N r : Nat} {l : List Nat} {st : Nat} {x : Part} {acc : List Part} (hx : Well m N (r + 1) x) (ha : ∀ y ∈ acc, Well m N r y) : ∀ n, n ≤ r + 1 → ∀ y ∈ lookM l st x acc n, Well m N r y
  | 0, _ => ha
  | n + 1, h => by
    rw [lookM_succ]
    exact each_well hx (by omega) (lookM_well hx ha n (by omega))
theorem fold_well {m : Str} {N r : Nat} {l : List Nat} {st : Nat} : ∀ (ps acc : List Part), (∀ x ∈ ps, Well m N (r + 1) x) → (∀ y ∈ acc, Well m N r y) → (∀ y ∈ ps.foldl (fun acc x => lookM l st x acc x.2.length) acc, Well m N r y) ∧ (ps.foldl (fun acc x => lookM l st x acc x.2.length) acc).length ≤ acc.length + ps.length * (r + 1)
  | [], acc, _, ha => ⟨ha, by simp⟩
  | x :: ps, acc, hp, ha => by
    have hx := hp x List.mem_cons_self
    have h1 := lookM_well (l := l) (st := st) hx ha x.2.length (by rw [hx.left]; exact Nat.le_refl _)
    have h2 := look_lenM l st x acc x.2.length
    obtain ⟨g1, g2⟩ := fold_well (l := l) (st := st) ps (lookM l st x acc x.2.length) (fun y hy => hp y (List.mem_cons_of_mem _ hy)) h1
    refine ⟨g1, Nat.le_trans g2 ?_⟩
    rw [List.length_cons, Nat.add_mul, Nat.one_mul]
    have := hx.left
    omega
theorem step_well {m : Str} {N r : Nat} {l : List Nat} {st : Nat} {ps : List Part} (hp : ∀ x ∈ ps, Well m N (r + 1) x) : (∀ y ∈ stepP l st ps, Well m N r y) ∧ (stepP l st ps).length ≤ ps.length * (r + 1) := by
  have := fold_well (l := l) (st := st) ps [] hp (fun _ h => by cases h)
  exact ⟨this.1, by simpa [stepP] using this.2⟩
def spEach (K : PySem.W.Frag) : Sp := fun vs H Q _ => ∃ (a b : Addr) (st : Nat) (us : List V) (ps : List Part) (m : Str) (N r : Nat), vs = [.ref a, .ref b, .int (st : Int)] ∧ SqL K H a us ∧ PtA H us ps ∧ SqL K H b (natsV (openM m)) ∧ m.length ≤ 12 ∧ (∀ x ∈ ps, Well m N (r + 1) x) ∧ N ≤ 1000 ∧ st + m.length ≤ N ∧ r ≤ 100 ∧ ps.length ≤ 10000 ∧
  ∀ p us' H', H p = none → Ex H H' → H' p = some (.lst us') → PtA H' us' (stepP (openM m) st ps) → Q (.ref p) H'
section
variable {P : Program} {w : World} {K : PySem.W.Frag} {mg : Str → Option Value} {base : Heap} {CM CV CG fG CK fK a_SMALL_WIDTH a_SMALL_SEEN : Addr}
theorem ok_each (e : Ent K mg "with_each_look" s_with_each_look p_with_each_look) (T : Top K mg CM CV CG fG CK fK a_SMALL_WIDTH a_SMALL_SEEN) (c1 : Cal P w K mg base CX0 1 "laid_on" p_laid_on (spLaid K)) : Cal P w K mg base CX0 2 "with_each_look" p_with_each_look (spEach K) := by
  obtain ⟨f, fd, F, m_, b_⟩ := e
  obtain ⟨f_laid_on, fd_laid_on, G_laid_on, m_laid_on, k_laid_on, b_laid_on⟩ := c1
  refine ⟨f, fd, F.ok sc_with_each_look (fun vs H Q E h => ?_) (fun cdv A outer s H vs Q E hr h => ?_), m_, F.kp, b_⟩
  · obtain ⟨a, b, st, us, ps, m, N, r, rfl, _⟩ := h
    rfl
  · obtain ⟨a, b, st, us, ps, m, N, r, rfl, ha, hp, hb, hm12, hw, hN, hst, hr100, hps, q⟩ := h
    have ol := open_len m
    refine ⟨_, (pss_cons (ps_set (i := 3) sc_with_each_look.nd rfl (Or.inl rfl) pe_dnewN)
      (pss_cons (ps_for PassesOwn.never rfl (pi_list (pv 0)) (pg_tup (by rfl) (pgs_cons (pg_name (i := 4) sc_with_each_look.nd rfl (Or.inl rfl)) (pgs_cons (pg_name (i := 5) sc_with_each_look.nd rfl (Or.inl rfl)) pgs_nil))) (pss_one (ps_for PassesOwn.never rfl (pi_enumA (by rfl) T.m_enumerate (pa_cons (pv 5) pa_nil)) (pg_tup (by rfl) (pgs_cons (pg_name (i := 6) sc_with_each_look.nd rfl (Or.inl rfl)) (pgs_cons (pg_name (i := 7) sc_with_each_look.nd rfl (Or.inl rfl)) pgs_nil))) (pss_cons (ps_set (i := 8) sc_with_each_look.nd rfl (Or.inl rfl) (pe_call G_laid_on (hr.mono (by decide)) (by rfl) m_laid_on k_laid_on b_laid_on .nil pass0 (pa_cons (pv 4) (pa_cons (pv 7) (pa_cons (pv 1) (pa_cons (pv 2) pa_nil))))))
      (pss_one (ps_if (pt_cmpR op_notN (pv 8) pe_non (nomark _)) (pss_one (ps_dputN (Nat.lt_of_le_of_lt (Nat.add_le_add_left (by decide) _) hr.units) (pv 3) (pe_tup (pa_cons (pv 8) (pa_cons (pe_op op_catA (pe_slice sl_tupW (pv 5) po_none (po_some (pv 6))) (pe_slice sl_tupW (pv 5) (po_some (pe_op op_add (pv 6) pe_int)) po_none)) pa_nil))) pe_bl rfl)) pss_nil))))))
      (pss_one (ps_ret (pe_callTy (call_listN rfl) (by rfl) T.m_list (by decide +kernel) (pa_cons (pv 3) pa_nil)))))), ?_⟩
    refine fun D nD => ?_
    dsimp only [tSeq, gName]
    have eD := Ex.new (o := ND P w D []) nD
    refine s_forL (D := { nx := _, rt := _, bk := _, ct := _ }) (xs := us) (ev_var rfl) (ex_l eD ha) (fun i σ' H' => Ex H H' ∧ ∃ (xs : NEs) (acc : List Part) (x4 x5 x6 x7 x8 : Option V), H' D = some (ND P w D xs) ∧ PK H' xs acc ∧ acc = (ps.take i).foldl (fun acc x => lookM (openM m) st x acc x.2.length) [] ∧ σ' = [some (.ref a), some (.ref b), some (.int (st : Int)), some (.ref D), x4, x5, x6, x7, x8])
      (fun H2 e2 => ⟨eD.trans e2, [], [], _, _, _, _, _, e2 _ _ upd_same, ⟨rfl, fun x hx => by cases hx⟩, rfl, rfl⟩) (fun i σ' H' _ p => ex_l p.1 ha) (fun i y σ' H' hy p => ?_) (fun σ' H' p => ?_)
    · obtain ⟨eH, xs, acc, x4, x5, x6, x7, x8, hD, hk, hacc, rfl⟩ := p
      have hi : i < ps.length := by rw [← hp.1]; exact (List.getElem?_eq_some_iff.mp hy).1
      obtain ⟨x, hx⟩ : ∃ x, ps[i]? = some x := ⟨ps[i], List.getElem?_eq_getElem hi⟩
      obtain ⟨t, c, ht, h1, h2⟩ := hp.2 i x hx
      obtain rfl : y = .ref t := Option.some.inj (hy.symm.trans ht)
      have wx := hw x (List.mem_of_getElem? hx)
      have tk : ps.take (i + 1) = ps.take i ++ [x] := by rw [List.take_succ, hx]; rfl
      have hal : acc.length ≤ i * (r + 1) := by
        rw [hacc]
        have := (fold_well (l := openM m) (st := st) (ps.take i) [] (fun y hy => hw y (List.mem_of_mem_take hy)) (fun _ h => by cases h)).2
        rw [List.length_take, Nat.min_eq_left (by omega)] at this
        simpa using this
      have hal2 : acc.length ≤ 1010000 := by
        have : i * (r + 1) ≤ 10000 * 101 := Nat.mul_le_mul (by omega) (by omega)
        omega
      refine ⟨t, _, rfl, st_of (eH _ _ h1), rfl, _, _, rfl, _, _, rfl, rfl, ?_⟩
      dsimp only [gName]
      refine s_forET (xs := x.2.map V.str) (j := 6) (k := 7) (ea_cons (ev_var rfl) ea_nil) (eH _ _ h2) (fun j σ' H2 => Ex H H2 ∧ ∃ (xs : NEs) (x6 x7 x8 : Option V), H2 D = some (ND P w D xs) ∧ PK H2 xs (lookM (openM m) st x acc j) ∧ σ' = [some (.ref a), some (.ref b), some (.int (st : Int)), some (.ref D), some (.str (txt x.1)), some (.ref c), x6, x7, x8])
        (fun H2 e2 => ⟨eH.trans e2, xs, _, _, _, e2 _ _ hD, hk.ex fun b ys z => e2 _ _ z, rfl⟩) (fun j σ' H2 _ p => p.1 _ _ h2) (fun j z σ' H2 T hz p nT => ?_) (fun σ' H2 p => ?_)
      · obtain ⟨eH2, xs2, x6, x7, x8, hD2, hk2, rfl⟩ := p
        obtain ⟨z, rfl, hlk, hj, hdrop⟩ := look_lens wx.looks hz
        have hzd : x.2.getD j PySem.Str.empty = z := by
          rw [List.getElem?_map, List.getElem?_eq_getElem hj] at hz
          rw [List.getD_eq_getElem?_getD, List.getElem?_eq_getElem hj]
          have := Option.some.inj hz
          injection this
        have lz := look_len hlk
        have eT := Ex.new (o := .tup [.int (j : Int), .str z]) nT
        have hD3 := eT _ _ hD2
        have hk3 := hk2.ex fun b ys z => eT _ _ z
        have eH3 := eH2.trans eT
        generalize upd H2 T (.tup [.int (j : Int), .str z]) = G at hD3 hk3 eH3 ⊢
        refine q_asg (v := layV (layAll x.1 (pairsOf z (openM m) st))) (ev_call (ea_cons (ev_var rfl) (ea_cons (ev_var rfl) (ea_cons (ev_var rfl) (ea_cons (ev_var rfl) ea_nil)))) fun G1 g1 Q q E => ⟨x.1, z, b, openM m, st, rfl, ex_l (eH3.trans g1) hb, lz.symm, fun p hp => by have := open_lt hp; have := wx.len; omega, by have := wx.len; omega, q⟩) fun G1 g1 => ?_
        have hD4 := g1 _ _ hD3
        have hk4 := hk3.ex fun b ys z => g1 _ _ z
        have eH4 := eH3.trans g1
        refine s_when (b := !(layAll x.1 (pairsOf z (openM m) st)).isNone) (et_test (ev_is (ev_op (ev_var rfl) ev_c rv_notN) (by rw [dec_isN]))) (fun h G2 g2 => ?_) (fun h G2 g2 => ?_)
        · cases hlay : layAll x.1 (pairsOf z (openM m) st) with
          | none => rw [hlay] at h; cases h
          | some k =>
            have hD5 := g2 _ _ hD4
            have hk5 := hk4.ex fun b ys z => g2 _ _ z
            have eH5 := eH4.trans g2
            have hstep : lookM (openM m) st x acc (j + 1) = addP (lookM (openM m) st x acc j) (k, cutAt x.2 j) := by
              rw [lookM_succ]
              unfold eachM
              rw [hzd, hlay]
            have hcl := eH5 _ _ h2
            refine ⟨_, rfl, _, rfl, ?_⟩
            refine eq_cat (eq_slT (ev_var rfl) eo_none (eo_some (ev_var rfl)) hcl) (eq_slT (ev_var rfl) (eo_some (ev_op (ev_var rfl) ev_c rv_I0)) eo_none hcl) ?_ G2 (Ex.refl _) _ fun c2 G3 g3 hc2 => ⟨by show 2 ≤ sizeLine; decide, fun p np => ?_⟩
            · have h1 := cutV_length (x.2.map V.str) none (some (j : Int))
              have h2 := cutV_length (x.2.map V.str) (some ((j : Int) + 1)) none
              have := wx.left
              rw [List.length_map] at h1 h2
              rw [sizeLine_eq]
              omega
            · have ecut : cutV (x.2.map V.str) none (some (j : Int)) ++ cutV (x.2.map V.str) (some ((j : Int) + 1)) none = (cutAt x.2 j).map V.str := by
                unfold cutAt cutV
                rw [List.map_append, HT.sIx_none, HT.sIx_none, show ((j : Int) + 1) = ((j + 1 : Nat) : Int) from rfl, HT.sIx_nat, HT.sIx_nat, List.length_map, List.drop_zero, Nat.sub_zero, Nat.min_eq_left (by omega), Nat.min_eq_left (by omega), List.map_take, List.map_drop]
                congr 1
                exact List.take_of_length_le (by rw [List.length_drop, List.length_map]; exact Nat.le_refl _)
              rw [ecut] at hc2
              have e3 := Ex.new (o := .tup [.str (txt k), .ref c2]) np
              have hp5 : upd G3 p (.tup [.str (txt k), .ref c2]) p = some (.tup [.str (txt k), .ref c2]) := upd_same
              have tk5 : TK (upd G3 p (.tup [.str (txt k), .ref c2])) (nkOf (k, cutAt x.2 j)) (.ref p) := part_tk (x := (k, cutAt x.2 j)) hp5 (e3 _ _ hc2)
              have hk6 := hk5.ex fun b ys z => e3 _ _ (g3 _ _ z)
              have hlen := hk6.len
              have hl2 := look_lenM (openM m) st x acc j
              have := wx.left
              refine ⟨D, xs2, nkOf (k, cutAt x.2 j), p, rfl, rfl, rfl, e3 _ _ (g3 _ _ hD5), hk6.2, tk5, nk_depth _, by rw [sizeLine_eq]; omega, Ex.mut ((eH5.trans g3).trans e3) nD, putN xs2 (nkOf (k, cutAt x.2 j)) p, _, _, _, upd_same, ?_, rfl⟩
              rw [hstep]
              refine (hk6.put tk5).ex fun b' ys zz => ?_
              rw [upd_ne (fun q => by rw [q, e3 _ _ (g3 _ _ hD5)] at zz; cases zz)]
              exact zz
        · cases hlay : layAll x.1 (pairsOf z (openM m) st) with
          | some k => rw [hlay] at h; cases h
          | none =>
            refine ⟨eH4.trans g2, xs2, _, _, _, g2 _ _ hD4, ?_, rfl⟩
            rw [lookM_succ]
            unfold eachM
            rw [hzd, hlay]
            exact hk4.ex fun b ys z => g2 _ _ z
      · obtain ⟨eH2, xs2, x6, x7, x8, hD2, hk2, rfl⟩ := p
        rw [List.length_map] at hk2
        refine ⟨eH2, xs2, _, _, _, _, _, _, hD2, hk2, ?_, rfl⟩
        rw [tk, List.foldl_append, ← hacc]
        rfl
    · obtain ⟨eH, xs, acc, x4, x5, x6, x7, x8, hD, hk, hacc, rfl⟩ := p
      rw [hp.1, List.take_length] at hacc
      refine ⟨_, rfl, D, xs, rfl, hD, hk.2, fun p np => ?_⟩
      have e9 := Ex.new (o := .lst (xs.map fun x => V.ref x.2)) np
      have pts := hk.pts.ex e9
      rw [hacc] at pts
      exact q p _ _ (fresh_back eH np) (eH.trans e9) upd_same pts
end
end K24
namespace K24
open PySem PySem.Spec PyProof.Rows L2 Evl Qt
def spLook0 (K : PySem.W.Frag) : Sp := fun vs H Q _ => ∃ (m z : Str), vs = [.str z, .str m] ∧ isLook m (.str z) = true ∧ m.length ≤ 12 ∧ RetV .non H Q
section
variable {P : Program} {w : World} {K : PySem.W.Frag} {mg : Str → Option Value} {base : Heap} {CM CV CG fG CK fK a_SMALL_WIDTH a_SMALL_SEEN : Addr}
theorem look0 (c : Cal P w K mg base (L2.CX P w) 3 "check_look" p_check_look (spCheckLook K CV)) : Cal P w K mg base CX0 3 "check_look" p_check_look (spLook0 K) := c.calm fun vs H Q E h => by
  obtain ⟨m, z, rfl, hlk, hm, q⟩ := h
  have l3 := open_len m
  have lz := look_len hlk
  exact ⟨.str z, m, rfl, .str (by omega), by omega, fun _ => q, fun h => by rw [hlk] at h; cases h⟩
theorem ok_nearC (e : Ent K mg "near" s_near p_near) (T : Top K mg CM CV CG fG CK fK a_SMALL_WIDTH a_SMALL_SEEN) (c1 : Cal P w K mg base CX0 5 "views" p_views spViews) (c2 : Cal P w K mg base CX0 3 "check_look" p_check_look (spLook0 K))
    (c3 : Cal P w K mg base CX0 5 "check_number" p_check_number spNumC) (c4 : Cal P w K mg base CX0 1 "others" p_others spOthers) : Cal P w K mg base CX0 6 "near" p_near spNear0 := by
  obtain ⟨f, fd, F, m_, b_⟩ := e
  obtain ⟨f_views, fd_views, G_views, m_views, k_views, b_views⟩ := c1
  obtain ⟨f_check_look, fd_check_look, G_check_look, m_check_look, k_check_look, b_check_look⟩ := c2
  obtain ⟨f_check_number, fd_check_number, G_check_number, m_check_number, k_check_number, b_check_number⟩ := c3
  obtain ⟨f_others, fd_others, G_others, m_others, k_others, b_others⟩ := c4
  refine ⟨f, fd, F.ok sc_near (fun vs H Q E h => ?_) (fun cdv A outer s H vs Q E hr h => ?_), m_, F.kp, b_⟩
  · obtain ⟨row, m, z, n, rfl, _⟩ := h
    rfl
  · obtain ⟨row, m, z, n, rfl, hr', hm, hlk, hn12, q⟩ := h
    have l1 := row_len hr'
    have l2 := isMask_len hm
    have l3 := open_len m
    have lz := look_len hlk
    refine ⟨_, (pss_cons (ps_set (i := 4) sc_near.nd rfl (Or.inl rfl) (pe_call G_views (hr.mono (by decide)) (by rfl) m_views k_views b_views .nil pass0 (pa_cons (pv 0) (pa_cons (pv 1) pa_nil))))
      (pss_cons (ps_expr (pe_call G_check_look (hr.mono (by decide)) (by rfl) m_check_look k_check_look b_check_look .nil pass0 (pa_cons (pv 2) (pa_cons (pv 1) pa_nil))))
      (pss_cons (ps_expr (pe_call G_check_number (hr.mono (by decide)) (by rfl) m_check_number k_check_number b_check_number .nil pass0 (pa_cons (pv 3) (pa_cons pe_int (pa_cons pe_int pa_nil)))))
      (pss_one (ps_ret (pe_lc (own := [("place", 5), ("view", 6)]) (g := gTup K 2 (gCons (gName 5) (gCons (gName 6) gNil))) (by rfl) sc_near.nd (pi_enum (by rfl) T.m_enumerate (pa_cons (pv 4) pa_nil)) (blkOk_by (own := [("place", 5), ("view", 6)]) (N := n_near) (sc := (defScope s_near)) (by decide +kernel)) (fun _ _ _ _ _ => by exact (pg_tup rfl (pgs_cons (by exact pg_name (i := 5) sc_near.nd rfl (Or.inl rfl)) (pgs_cons (by exact pg_name (i := 6) sc_near.nd rfl (Or.inl rfl)) pgs_nil)))) (fun _ _ _ _ _ => pts_one (pt_cmpR op_le (pe_call G_others (hr.mono (by decide)) (by rfl) m_others k_others b_others .nil pass0 (pa_cons (pv 6) (pa_cons (pv 2) pa_nil))) (pv 3) (nomark _))) (fun _ _ _ _ _ => (pv 5)))))))), ?_⟩
    refine q_asgL (xs := (viewsM row m).map V.str) (el_call (ea_cons (ev_var rfl) (ea_cons (ev_var rfl) ea_nil)) fun H1 e1 Q q E => ⟨row, m, rfl, hr', hm, q⟩) fun a H1 na e1 ha => ?_
    refine q_drop (v := .non) (ev_call (ea_cons (ev_var rfl) (ea_cons (ev_var rfl) ea_nil)) fun G e Q q E => ⟨m, z, rfl, hlk, by omega, q⟩) fun H2 e2 => ?_
    refine q_drop (v := .non) (ev_call (ea_cons (ev_var rfl) (ea_cons ev_c (ea_cons ev_c ea_nil))) fun G e Q q E => ⟨(n : Int), 0, 12, rfl, by omega, by omega, q⟩) fun H3 e3 => ?_
    have e12 := e1.trans e2
    have ha3 := e3 _ _ (e2 _ _ ha)
    have y := el_lcLE (K := K) (te := tVar 5) (t := tTest (tOp (rI0 fun i j => V.bl (decide (i ≤ j))) (tCall spOthers [] E (tCons (tVar 6) (tCons (tVar 2) tNil))) (tVar 3))) (ta := tCons (tVar 4) tNil) (j := 5) (k := 6) (vs := [5, 6])
      (σ := (start n_near [.str row, .str m, .str z, .int (n : Int)]).set 4 (some (.ref a))) (H := H3) (a := a) (xs := (viewsM row m).map V.str) (fun i => decide (missM (viewM row (openM m) i) z ≤ n)) (fun i => V.int (i : Int))
      (ea_cons (ev_var rfl) ea_nil) (sq_of ha3) (by rw [List.length_map, views_len]; omega) (fun _ _ => rfl) (fun i x H4 e4 hx => by
        obtain ⟨hi, rfl⟩ := views_get hx
        refine et_is (et_test (ev_op (ev_call (ea_cons (ev_var rfl) (ea_cons (ev_var rfl) ea_nil)) fun H5 e5 Q q E => ⟨_, _, rfl, by rw [view_len]; omega, by rw [view_len]; omega, q⟩) (ev_var rfl) rv_I0)) (decide_eq_decide.mpr (by omega)))
      (fun i x H4 e4 hx _ => ev_var rfl)
    rw [List.length_map, views_len] at y
    exact s_retL y fun p H4 np e4 h4 => q p H4 (fresh_back (e12.trans e3) np) ((e12.trans e3).trans e4) h4
theorem ok_findC (e : Ent K mg "find" s_find p_find) (T : Top K mg CM CV CG fG CK fK a_SMALL_WIDTH a_SMALL_SEEN) (c1 : Cal P w K mg base CX0 6 "near" p_near spNear0) : Cal P w K mg base CX0 7 "find" p_find spFind0 := by
  obtain ⟨f, fd, F, m_, b_⟩ := e
  obtain ⟨f_near, fd_near, G_near, m_near, k_near, b_near⟩ := c1
  refine ⟨f, fd, F.ok sc_find (fun vs H Q E h => ?_) (fun cdv A outer s H vs Q E hr h => ?_), m_, F.kp, b_⟩
  · obtain ⟨row, m, z, rfl, _⟩ := h
    rfl
  · obtain ⟨row, m, z, rfl, hr', hm, hlk, q⟩ := h
    refine ⟨_, (pss_one (ps_ret (pe_call G_near (hr.mono (by decide)) (by rfl) m_near k_near b_near .nil pass0 (pa_cons (pv 0) (pa_cons (pv 1) (pa_cons (pv 2) (pa_cons pe_int pa_nil))))))), ?_⟩
    exact s_retL (el_call (ea_cons (ev_var rfl) (ea_cons (ev_var rfl) (ea_cons (ev_var rfl) (ea_cons ev_c ea_nil)))) fun H1 e1 Q q E => ⟨row, m, z, 0, rfl, hr', hm, hlk, by omega, q⟩) q
end
end K24
namespace K24
open PySem PySem.Spec PyProof.Rows L2 Evl Qt
def leS (a b : Str) : Bool := decide (a.cps.toList ≤ b.cps.toList)
def sortS (zs : List Str) : List Str := zs.mergeSort leS
def unk (m : Str) (zs : List Str) : List Nat := List.replicate (zs.length + m.length - 1) 63
def allParts (m : Str) (zs : List Str) : List Part := partsM (openM m) [(unk m zs, sortS zs)] zs.length
def rowsM (m : Str) (zs : List Str) : List (List Nat) := ((allParts m zs).map (·.1)).mergeSort fun x y => decide (x ≤ y)
def spRows (K : PySem.W.Frag) : Sp := fun vs H Q _ => ∃ (m : Str) (a : Addr) (zs : List Str), vs = [.str m, .ref a] ∧ isMask m = true ∧ SqA K H a (zs.map V.str) ∧ 1 ≤ zs.length ∧ zs.length ≤ 7 ∧ (∀ z ∈ zs, isLook m (.str z) = true) ∧ RetL (tS (rowsM m zs)) H Q
def dfl (n : Nat) : Nat → Nat
  | 0 => 1
  | i + 1 => dfl n i * (n - i)
theorem dfl_small : ∀ n, n < 8 → ∀ i, i < 8 → dfl n i ≤ 5040 := by decide
theorem sortS_mem {zs : List Str} {z : Str} (h : z ∈ sortS zs) : z ∈ zs := (List.mergeSort_perm zs leS).mem_iff.mp h
theorem sortS_len (zs : List Str) : (sortS zs).length = zs.length := (List.mergeSort_perm zs leS).length_eq
theorem parts_well {m : Str} {N n : Nat} {p0 : List Part} (h1 : p0.length = 1) (h0 : ∀ x ∈ p0, Well m N n x) : ∀ i, i ≤ n → (∀ x ∈ partsM (openM m) p0 i, Well m N (n - i) x) ∧ (partsM (openM m) p0 i).length ≤ dfl n i
  | 0, _ => ⟨h0, by show p0.length ≤ 1; omega⟩
  | i + 1, hi => by
    obtain ⟨g1, g2⟩ := parts_well h1 h0 i (by omega)
    have e : n - i = (n - (i + 1)) + 1 := by omega
    rw [e] at g1
    obtain ⟨k1, k2⟩ := step_well (l := openM m) (st := i) g1
    refine ⟨k1, Nat.le_trans k2 ?_⟩
    rw [← e]
    exact Nat.mul_le_mul_right _ g2
theorem unk_len (m : Str) (zs : List Str) : (unk m zs).length = zs.length + m.length - 1 := List.length_replicate ..
theorem p0_well {m : Str} {zs : List Str} (hz : ∀ z ∈ zs, isLook m (.str z) = true) : ∀ x ∈ [((unk m zs, sortS zs) : Part)], Well m (zs.length + m.length - 1) zs.length x := fun x hx => by
  rw [List.mem_singleton.mp hx]
  exact ⟨unk_len m zs, sortS_len zs, fun z h => hz z (sortS_mem h)⟩
theorem merge_mapS {α β : Type} (f : α → β) (le : β → β → Bool) (lf : α → α → Bool) (l : List α) (h : ∀ a ∈ l, ∀ b ∈ l, le (f a) (f b) = lf a b) : (l.map f).mergeSort le = (l.mergeSort lf).map f := by
  rw [List.map_mergeSort]
  intro a ha b hb
  exact (h a ha b hb).symm
theorem dp_texts {K : PySem.W.Frag} {H : Hp} {α : Type} (f : α → Str) : ∀ l : List α, DpAll K H (l.map fun u => V.str (f u)) (l.map fun u => PyData.str (f u))
  | [] => .nil
  | a :: r => .cons (.str _) (dp_texts f r)
theorem rs_texts {K : PySem.W.Frag} {H : Hp} {Q : VK} {a : Addr} {α : Type} (f : α → Str) (l : List α) (ha : SqA K H a (l.map fun u => V.str (f u))) (q : ∀ p, H p = none → Q (.ref p) (upd H p (.lst ((l.mergeSort fun x y => leS (f x) (f y)).map fun u => V.str (f u))))) : rSortedB K [.ref a] H Q :=
  ⟨a, l.map fun u => (PyData.str (f u), V.str (f u)), rfl, by rw [List.map_map]; exact ha, by
    rw [List.map_map, List.map_map]
    exact dp_texts f l, by
    rw [List.map_map]
    exact PySem.W.AllAlike.of fun x y => by simp only [Function.comp, PySem.W.alike], by
    rw [List.map_map]
    exact PySem.W.Sortable.others fun x => ⟨fun z => (by cases z), fun _ z => (by cases z)⟩, fun z hz => by
    obtain ⟨u, _, rfl⟩ := List.mem_map.mp hz
    exact Nat.zero_le _, fun p np => by
    rw [merge_mapS (fun u => (PyData.str (f u), V.str (f u))) _ (fun x y => leS (f x) (f y)), List.map_map]
    · exact q p np
    · intro a _ b _
      show (!PySem.W.dataLt (.str (f b)) (.str (f a))) = leS (f a) (f b)
      rw [PySem.W.dataLt_str, PySem.W.not_lt_str]
      rfl⟩
theorem el_sortedA {K : PySem.W.Frag} {σ : L2.St} {H : Hp} {te : TE} {a : Addr} {zs : List Str} (h : Ev te σ H (.ref a)) (ha : SqA K H a (zs.map V.str)) : EvL (tCB (rSortedB K) (tCons te tNil)) σ H ((sortS zs).map V.str) := fun H1 e Q q =>
  h H1 e _ fun H2 e2 => rs_texts (fun z => z) zs ((ha.ex e).ex e2) fun p np => q p _ (fresh_back e2 np) (e2.trans (Ex.new np)) upd_same
theorem el_sortedW {K : PySem.W.Frag} {σ : L2.St} {H : Hp} {te : TE} {l : List (List Nat)} (h : EvL te σ H (tS l)) : EvL (tCB (rSortedB K) (tCons te tNil)) σ H (tS (l.mergeSort fun x y => decide (x ≤ y))) := fun H1 e Q q =>
  h H1 e _ fun p H2 np e2 hp => rs_texts txt l (.inl hp) fun p2 np2 => q p2 _ (fresh_back e2 np2) (e2.trans (Ex.new np2)) (by
    rw [upd_same]
    have : (fun x y => leS (txt x) (txt y)) = fun x y : List Nat => decide (x ≤ y) := by
      funext x y
      unfold leS
      rw [txt_l, txt_l]
    rw [this]
    rfl)
theorem pta_rows {K : PySem.W.Frag} {H : Hp} {us : List V} {ps : List Part} (h : PtA H us ps) : ∃ g : Nat → V, ∀ i x, us[i]? = some x → ∃ t, x = .ref t ∧ SqT K H t [.str (txt (ps.getD i ([], [])).1), g i] := by
  refine Classical.axiomOfChoice (r := fun i v => ∀ x, us[i]? = some x → ∃ t, x = .ref t ∧ SqT K H t [.str (txt (ps.getD i ([], [])).1), v]) fun i => ?_
  cases e : ps[i]? with
  | none => exact ⟨.non, fun x hx => by
      have h1 := (List.getElem?_eq_some_iff.mp hx).1
      rw [h.1] at h1
      rw [List.getElem?_eq_getElem h1] at e
      cases e⟩
  | some y =>
    obtain ⟨b, c, h1, h2, h3⟩ := h.2 i y e
    exact ⟨.ref c, fun x hx => ⟨b, Option.some.inj (hx.symm.trans h1), by rw [List.getD_eq_getElem?_getD, e]; exact st_of h2⟩⟩
theorem rows_getD (ps : List Part) : ((List.range ps.length).map fun i => V.str (txt (ps.getD i ([], [])).1)) = tS (ps.map (·.1)) := by
  unfold tS
  rw [List.map_map]
  refine List.ext_getElem (by simp) fun i h1 h2 => ?_
  have hi : i < ps.length := by simpa using h1
  rw [List.getElem_map, List.getElem_map, List.getElem_range, List.getD_eq_getElem?_getD, List.getElem?_eq_getElem hi]
  rfl
section
variable {P : Program} {w : World} {K : PySem.W.Frag} {mg : Str → Option Value} {base : Heap} {CM CV CG fG CK fK a_SMALL_WIDTH a_SMALL_SEEN : Addr}
theorem ok_rowsC (e : Ent K mg "rows_from" s_rows_from p_rows_from) (T : Top K mg CM CV CG fG CK fK a_SMALL_WIDTH a_SMALL_SEEN) (c1 : Cal P w K mg base CX0 4 "seen" p_seen (spSeen0 K)) (c2 : Cal P w K mg base CX0 3 "check_looks" p_check_looks (spCheckLooks K))
    (c3 : Cal P w K mg base CX0 6 "unknown_row" p_unknown_row (spUnknown K)) (c4 : Cal P w K mg base CX0 2 "with_each_look" p_with_each_look (spEach K)) : Cal P w K mg base CX0 7 "rows_from" p_rows_from (spRows K) := by
  obtain ⟨f, fd, F, m_, b_⟩ := e
  obtain ⟨f_seen, fd_seen, G_seen, m_seen, k_seen, b_seen⟩ := c1
  obtain ⟨f_check_looks, fd_check_looks, G_check_looks, m_check_looks, k_check_looks, b_check_looks⟩ := c2
  obtain ⟨f_unknown_row, fd_unknown_row, G_unknown_row, m_unknown_row, k_unknown_row, b_unknown_row⟩ := c3
  obtain ⟨f_with_each_look, fd_with_each_look, G_with_each_look, m_with_each_look, k_with_each_look, b_with_each_look⟩ := c4
  refine ⟨f, fd, F.ok sc_rows_from (fun vs H Q E h => ?_) (fun cdv A outer s H vs Q E hr h => ?_), m_, F.kp, b_⟩
  · obtain ⟨m, a, zs, rfl, _⟩ := h
    rfl
  · obtain ⟨m, a, zs, rfl, hm, ha, h1, h7, hz, q⟩ := h
    have l1 := isMask_len hm
    have l2 := open_len m
    refine ⟨_, (pss_cons (ps_set (i := 2) sc_rows_from.nd rfl (Or.inl rfl) (pe_call G_seen (hr.mono (by decide)) (by rfl) m_seen k_seen b_seen .nil pass0 (pa_cons (pv 0) pa_nil)))
      (pss_cons (ps_expr (pe_call G_check_looks (hr.mono (by decide)) (by rfl) m_check_looks k_check_looks b_check_looks .nil pass0 (pa_cons (pv 1) (pa_cons (pv 0) pa_nil))))
      (pss_cons (ps_if (pt_cmpR op_gt (pe_callB call_len (by rfl) T.m_len (by decide +kernel) (pa_cons (pv 1) pa_nil)) (pe_glob (v := .int 7) (by rfl) T.g_MOST_IN_ANY_ORDER.choose_spec ⟨_, rfl⟩) (nomark _)) (pss_one ps_never) pss_nil)
      (pss_cons (ps_set (i := 3) sc_rows_from.nd rfl (Or.inl rfl) (pe_lst (pa_cons (pe_tup (pa_cons (pe_call G_unknown_row (hr.mono (by decide)) (by rfl) m_unknown_row k_unknown_row b_unknown_row .nil pass0 (pa_cons (pv 0) (pa_cons (pv 1) pa_nil))) (pa_cons (pe_callTy call_tuple_of (by rfl) T.m_tuple (by decide +kernel) (pa_cons (pe_callB (cr_sortedB hr.units) (by rfl) T.m_sorted (by decide +kernel) (pa_cons (pv 1) pa_nil)) pa_nil)) pa_nil))) pa_nil)))
      (pss_cons (ps_for PassesOwn.never rfl (pi_range1 (by rfl) T.m_range (pa_cons (pe_callB call_len (by rfl) T.m_len (by decide +kernel) (pa_cons (pv 1) pa_nil)) pa_nil)) (pg_name (i := 4) sc_rows_from.nd rfl (Or.inl rfl)) (pss_one (ps_set (i := 3) sc_rows_from.nd rfl (Or.inl rfl) (pe_call G_with_each_look (hr.mono (by decide)) (by rfl) m_with_each_look k_with_each_look b_with_each_look .nil pass0 (pa_cons (pv 3) (pa_cons (pv 2) (pa_cons (pv 4) pa_nil)))))))
      (pss_one (ps_ret (pe_callB (cr_sortedB hr.units) (by rfl) T.m_sorted (by decide +kernel) (pa_cons (pe_lc (own := [("row", 5), ("_", 6)]) (g := gTup K 2 (gCons (gName 5) (gCons (gName 6) gNil))) (by rfl) sc_rows_from.nd (pi_list (pv 3)) (blkOk_by (own := [("row", 5), ("_", 6)]) (N := n_rows_from) (sc := (defScope s_rows_from)) (by decide +kernel)) (fun _ _ _ _ _ => by exact (pg_tup rfl (pgs_cons (by exact pg_name (i := 5) sc_rows_from.nd rfl (Or.inl rfl)) (pgs_cons (by exact pg_name (i := 6) sc_rows_from.nd rfl (Or.inl rfl)) pgs_nil)))) (fun _ _ _ _ _ => pts_nil) (fun _ _ _ _ _ => (pv 5))) pa_nil))))))))), ?_⟩
    refine q_asgL (xs := natsV (openM m)) (el_call (ea_cons (ev_var rfl) ea_nil) fun G e Q q E => ⟨m, rfl, hm, q⟩) fun b H1 nb e1 hb => ?_
    refine q_drop (v := .non) (ev_call (ea_cons (ev_var rfl) (ea_cons (ev_var rfl) ea_nil)) fun G e Q q E => ⟨a, m, zs, rfl, by omega, (ha.ex e1).ex e, h1, by omega, hz, q⟩) fun H2 e2 => ?_
    refine q_when (b := decide ((7 : Int) < ((zs.map V.str).length : Int))) (et_test (ev_op (ev_cb (ea_cons (ev_var rfl) ea_nil) (rc_lenA ((ha.ex e1).ex e2))) ev_c rv_I0)) (fun h => ?_) (fun _ H3 e3 => ?_)
    · rw [List.length_map] at h
      have := of_decide_eq_true h
      omega
    have e13 := (e1.trans e2).trans e3
    have hw0 := p0_well hz
    refine (ev_call (vs := [.str m, .ref a]) (z := .str (txt (unk m zs))) (ea_cons (ev_var rfl) (ea_cons (ev_var rfl) ea_nil)) fun G e Q q E => ⟨m, a, zs.map V.str, rfl, (ha.ex e13).ex e, by rw [List.length_map]; exact h1, by rw [List.length_map]; omega, by omega, by omega, by rw [List.length_map]; exact q⟩ : Ev _ _ H3 _) H3 (Ex.refl _) _ fun H4 e4 => ?_
    refine (eu_tupOf (el_sortedA (ev_var rfl) ((ha.ex e13).ex e4)) : EvU _ _ H4 _) H4 (Ex.refl _) _ fun c H5 nc e5 hc => ⟨by show 2 ≤ sizeLine; decide, fun t nt => ⟨by show 1 ≤ sizeLine; decide, fun p np => ?_⟩⟩
    dsimp only [tSeq, gName]
    have eu1 := Ex.new (o := .tup [.str (txt (unk m zs)), .ref c]) nt
    have eu2 := Ex.new (o := .lst [.ref t]) np
    have e15 := (((e13.trans e4).trans e5).trans eu1).trans eu2
    have pt0 : PtA (upd (upd H5 t (.tup [.str (txt (unk m zs)), .ref c])) p (.lst [.ref t])) [.ref t] [((unk m zs, sortS zs) : Part)] := ⟨rfl, fun i x hx => by
      cases i with
      | succ i => simp at hx
      | zero =>
        obtain rfl : ((unk m zs, sortS zs) : Part) = x := by simpa using hx
        exact ⟨t, c, rfl, eu2 _ _ upd_same, eu2 _ _ (eu1 _ _ hc)⟩⟩
    have hp0 : upd (upd H5 t (.tup [.str (txt (unk m zs)), .ref c])) p (.lst [.ref t]) p = some (.lst [.ref t]) := upd_same
    have hbG := eu2 _ _ (eu1 _ _ (e5 _ _ (e4 _ _ (e3 _ _ (e2 _ _ hb)))))
    generalize upd (upd H5 t (.tup [.str (txt (unk m zs)), .ref c])) p (.lst [.ref t]) = G at pt0 hp0 e15 hbG ⊢
    refine q_forR1 (j := 4) (n := (zs.length : Int)) (ea_cons (ev_is (ev_cb (ea_cons (ev_var rfl) ea_nil) (rc_lenA (ha.ex e15))) (by rw [List.length_map])) ea_nil) (by omega)
      (fun i σ' H' => Ex G H' ∧ ∃ (p : Addr) (us : List V) (x4 x5 x6 : Option V), H' p = some (.lst us) ∧ PtA H' us (partsM (openM m) [(unk m zs, sortS zs)] i) ∧ σ' = [some (.str m), some (.ref a), some (.ref b), some (.ref p), x4, x5, x6])
      (fun H6 e6 => ⟨e6, p, _, _, _, _, e6 _ _ hp0, pt0.ex e6, rfl⟩) (fun i σ' H' hi pp => ?_) (fun σ' H' pp => ?_)
    · obtain ⟨eH, p, us, x4, x5, x6, hp, hpt, rfl⟩ := pp
      have hi' : i < zs.length := by omega
      obtain ⟨g1, g2⟩ := parts_well (n := zs.length) rfl hw0 i (by omega)
      have gs := dfl_small zs.length (by omega) i (by omega)
      rw [show zs.length - i = (zs.length - (i + 1)) + 1 by omega] at g1
      refine ⟨_, rfl, _, rfl, _, rfl, p, b, i, us, _, m, zs.length + m.length - 1, zs.length - (i + 1), rfl, sq_of hp, hpt, sq_of (eH _ _ hbG), by omega, g1, by omega, by omega, by omega, by omega, fun p2 us2 H7 np2 e7 hp2 hpt2 => ?_⟩
      exact ⟨eH.trans e7, p2, us2, _, _, _, hp2, hpt2, rfl⟩
    · obtain ⟨eH, p, us, x4, x5, x6, hp, hpt, rfl⟩ := pp
      rw [Int.toNat_natCast] at hpt
      obtain ⟨g1, g2⟩ := parts_well (n := zs.length) rfl hw0 zs.length (Nat.le_refl _)
      have gs := dfl_small zs.length (by omega) zs.length (by omega)
      obtain ⟨g, hg⟩ := pta_rows (K := K) hpt
      refine s_retL (el_sortedW (l := (allParts m zs).map (·.1)) (el_is (el_lcP (K := K) (xs := us) (fun i => V.str (txt ((allParts m zs).getD i ([], [])).1)) g (fun i => V.str (txt ((allParts m zs).getD i ([], [])).1)) (ev_var rfl) (sq_of hp) hg (by rw [hpt.1, sizeLine_eq]; omega) (fun _ _ => rfl) (fun i H4 e4 hi => ev_var rfl)) (by rw [hpt.1]; exact rows_getD _))) fun p3 H8 np3 e8 hp3 => ?_
      exact q p3 H8 (fresh_back (e15.trans eH) np3) ((e15.trans eH).trans e8) hp3
end
end K24
namespace K24
open PySem PySem.Spec PyProof.Rows L2 Evl Qt
def masksL (w : Nat) : List (List Nat) := if w = 1 then [[120]] else (wordsL [46, 120] (w - 2)).map fun l => 120 :: l ++ [120]
def masksTo (w : Nat) : List (List Nat) := (List.range w).flatMap fun i => masksL (1 + i)
def spMasksOf : Sp := fun vs H Q _ => ∃ n : Nat, vs = [.int (n : Int)] ∧ 1 ≤ n ∧ n ≤ 12 ∧ RetL (tS (masksL n)) H Q
def spMasksTo : Sp := fun vs H Q _ => ∃ n : Nat, vs = [.int (n : Int)] ∧ n ≤ 12 ∧ RetL (tS (masksTo n)) H Q
theorem masks_len {w : Nat} (h : w ≤ 12) : (masksL w).length ≤ 1100 := by
  unfold masksL
  split
  · simp
  · rw [List.length_map, words_len]
    show 2 ^ (w - 2) ≤ 1100
    have : 2 ^ (w - 2) ≤ 2 ^ 10 := Nat.pow_le_pow_right (by omega) (by omega)
    omega
theorem masks_each {w : Nat} {l : List Nat} (h1 : 1 ≤ w) (h2 : w ≤ 12) (h : l ∈ masksL w) : isMask (txt l) = true ∧ l.length = w := by
  unfold masksL at h
  split at h
  · rename_i e
    have : l = [120] := by simpa using h
    subst this
    exact ⟨by decide +kernel, by rw [e]; rfl⟩
  · rename_i e
    obtain ⟨u, hu, rfl⟩ := List.mem_map.mp h
    obtain ⟨e1, e2⟩ := words_each hu
    have e3 : (120 :: u ++ [120]).length = w := by simp; omega
    refine ⟨isMask_of (fun c hc => ?_) (by rw [txt_len]; omega) (by rw [txt_len]; omega) ?_ ?_, e3⟩
    · rw [txt_l] at hc
      simp at hc
      rcases hc with rfl | hc | rfl
      · exact .inl rfl
      · have := e2 c hc
        simp at this
        exact this.symm
      · exact .inl rfl
    · unfold fst
      rw [txt_l]
      rfl
    · unfold lst
      rw [txt_l, txt_len]
      simp
theorem masksTo_succ (w : Nat) : masksTo (w + 1) = masksTo w ++ masksL (1 + w) := by
  unfold masksTo
  rw [List.range_succ, List.flatMap_append, List.flatMap_singleton]
theorem masksTo_len {w : Nat} (h : w ≤ 12) : (masksTo w).length ≤ w * 1100 := by
  induction w with
  | zero => simp [masksTo]
  | succ w ih =>
    rw [masksTo_succ, List.length_append, Nat.succ_mul]
    have a := ih (by omega)
    have b := masks_len (w := 1 + w) (by omega)
    omega
theorem masksTo_each {w : Nat} {l : List Nat} (h2 : w ≤ 12) (h : l ∈ masksTo w) : isMask (txt l) = true ∧ l.length ≤ w := by
  unfold masksTo at h
  obtain ⟨i, hi, hl⟩ := List.mem_flatMap.mp h
  have := List.mem_range.mp hi
  obtain ⟨a, b⟩ := masks_each (by omega) (by omega) hl
  exact ⟨a, by omega⟩
theorem masks_flat (n : Nat) : given2 (fun i => (tS (masksL (1 + i))).length) (fun i m => (tS (masksL (1 + i))).getD m .non) n = tS (masksTo n) := by
  unfold given2
  induction n with
  | zero => rfl
  | succ n ih =>
    rw [List.range_succ, List.flatMap_append, List.flatMap_singleton, ih, masksTo_succ]
    unfold tS
    rw [List.map_append]
    have z := range_map_getD ((masksL (1 + n)).map fun w => V.str (txt w)) .non id
    rw [List.map_id] at z
    exact congrArg _ z
theorem x_app (l : List Nat) : (PySem.Str.ofString "x" ++ txt l) ++ PySem.Str.ofString "x" = txt (120 :: l ++ [120]) := by
  apply str_ext
  rw [str_app, str_app, txt_l, txt_l, xone]
  rfl
theorem x_txt : PySem.Str.ofString "x" = txt [120] := by decide +kernel
section
variable {P : Program} {w : World} {K : PySem.W.Frag} {mg : Str → Option Value} {base : Heap} {CM CV CG fG CK fK a_SMALL_WIDTH a_SMALL_SEEN : Addr}
theorem ok_masks_of (e : Ent K mg "masks_of" s_masks_of p_masks_of) (T : Top K mg CM CV CG fG CK fK a_SMALL_WIDTH a_SMALL_SEEN) (c1 : Cal P w K mg base CX0 1 "words" p_words spWords) : Cal P w K mg base CX0 2 "masks_of" p_masks_of spMasksOf := by
  obtain ⟨f, fd, F, m_, b_⟩ := e
  obtain ⟨f_words, fd_words, G_words, m_words, k_words, b_words⟩ := c1
  refine ⟨f, fd, F.ok sc_masks_of (fun vs H Q E h => ?_) (fun cdv A outer s H vs Q E hr h => ?_), m_, F.kp, b_⟩
  · obtain ⟨n, rfl, _⟩ := h
    rfl
  · obtain ⟨n, rfl, h1, h2, q⟩ := h
    refine ⟨_, (pss_cons (ps_if (pt_cmpR op_eq (pv 0) pe_int (nomark _)) (pss_one (ps_ret (pe_lst (pa_cons pe_str pa_nil)))) pss_nil)
      (pss_one (ps_ret (pe_lc (own := [("inner", 1)]) (g := gName 1) (by rfl) sc_masks_of.nd (pi_list (pe_call G_words (hr.mono (by decide)) (by rfl) m_words k_words b_words .nil pass0 (pa_cons pe_str (pa_cons (pe_op op_sub (pv 0) pe_int) pa_nil)))) (blkOk_by (own := [("inner", 1)]) (N := n_masks_of) (sc := (defScope s_masks_of)) (by decide +kernel)) (fun _ _ _ _ _ => pg_name (i := 1) sc_masks_of.nd rfl (Or.inl rfl)) (fun _ _ _ _ _ => pts_nil) (fun _ _ _ _ _ => (pe_op op_add_str (pe_op op_add_str pe_str (pv 1)) pe_str)))))), ?_⟩
    refine q_when (b := decide (V.int (n : Int) = V.int 1)) (et_test (ev_op (ev_var rfl) ev_c (rv_eq rfl))) (fun h H1 e1 => ?_) (fun h H1 e1 => ?_)
    · have hn : n = 1 := by
        have := of_decide_eq_true h
        injection this with this
        omega
      subst hn
      exact s_retL (xs := tS (masksL 1)) (el_is (el_lst (ea_cons ev_c ea_nil) (by simp)) (by rw [x_txt]; rfl)) fun p H2 np e2 hp => q p H2 (fresh_back e1 np) (e1.trans e2) hp
    · have hn : n ≠ 1 := fun z => of_decide_eq_false h (by rw [z]; rfl)
      have e2 : (2 : Nat) ^ (n - 2) ≤ 2 ^ 10 := Nat.pow_le_pow_right (by omega) (by omega)
      refine s_retL (xs := tS (masksL n)) (el_is (el_lcNL (xs := tS (wordsL [46, 120] (n - 2))) (fun _ => true) (fun i => V.str (txt (120 :: (wordsL [46, 120] (n - 2)).getD i [] ++ [120]))) (el_call (ea_cons ev_c (ea_cons (ev_op (ev_var rfl) ev_c rv_I0) ea_nil)) fun G e Q q E => ⟨PySem.Str.ofString ".x", n - 2, ?_, by decide +kernel, by decide +kernel, by omega, ?_, ?_⟩)
        (by rw [tS_len, words_len]; show 2 ^ (n - 2) ≤ _; omega) (fun _ => rfl) (fun _ _ _ _ _ => et_yes) (fun i x H3 e3 hx _ => ?_)) ?_) fun p H2 np e2 hp => q p H2 (fresh_back e1 np) (e1.trans e2) hp
      · show [V.str _, V.int ((n : Int) - 2)] = [V.str _, V.int ((n - 2 : Nat) : Int)]
        rw [show ((n : Int) - 2) = ((n - 2 : Nat) : Int) by omega]
      · rw [show (PySem.Str.ofString ".x").length = 2 by decide +kernel]
        omega
      · rw [dx_l]
        exact q
      · obtain ⟨hi, rfl⟩ := tS_get hx
        have := (words_each (mem_getDL (d := []) hi)).1
        rw [← x_app]
        exact ev_op (ev_op ev_c (ev_var rfl) (rv_addS (by rw [x_len, txt_len]; omega))) ev_c (rv_addS (by rw [app_len, x_len, txt_len]; omega))
      · rw [given_all, tS_len, range_map_getD (wordsL [46, 120] (n - 2)) [] fun l => V.str (txt (120 :: l ++ [120]))]
        unfold tS masksL
        rw [if_neg hn, List.map_map]
        rfl
theorem ok_masks_to (e : Ent K mg "masks_to" s_masks_to p_masks_to) (T : Top K mg CM CV CG fG CK fK a_SMALL_WIDTH a_SMALL_SEEN) (c1 : Cal P w K mg base CX0 2 "masks_of" p_masks_of spMasksOf) : Cal P w K mg base CX0 3 "masks_to" p_masks_to spMasksTo := by
  obtain ⟨f, fd, F, m_, b_⟩ := e
  obtain ⟨f_masks_of, fd_masks_of, G_masks_of, m_masks_of, k_masks_of, b_masks_of⟩ := c1
  refine ⟨f, fd, F.ok sc_masks_to (fun vs H Q E h => ?_) (fun cdv A outer s H vs Q E hr h => ?_), m_, F.kp, b_⟩
  · obtain ⟨n, rfl, _⟩ := h
    rfl
  · obtain ⟨n, rfl, h1, q⟩ := h
    refine ⟨_, (pss_one (ps_ret (pe_lc2 (own := [("narrow", 1), ("mask", 2)]) (vs1 := [2]) (g := (gName 1)) (g1 := (gName 2)) (by rfl) sc_masks_to.nd (pi_range2 (by rfl) T.m_range (pa_cons pe_int (pa_cons (pe_op op_add (pv 0) pe_int) pa_nil))) (blkOk_by (own := [("narrow", 1), ("mask", 2)]) (N := n_masks_to) (sc := (defScope s_masks_to)) (by decide +kernel)) (by decide) (fun _ _ _ _ _ => pg_name (i := 1) sc_masks_to.nd rfl (Or.inl rfl)) (fun _ _ _ _ _ => pts_nil) (fun _ _ _ _ _ => by exact ((pi_listK K rfl) (pe_call G_masks_of (hr.mono (by decide)) (by rfl) m_masks_of k_masks_of b_masks_of .nil pass0 (pa_cons (pv 1) pa_nil)))) (fun _ _ _ _ _ => pg_name (i := 2) sc_masks_to.nd rfl (Or.inl rfl)) (fun _ _ _ _ _ => pts_nil) (fun _ _ _ _ _ => (pv 2))))), ?_⟩
    refine s_retL (xs := tS (masksTo n)) (el_is (el_lc2RL (lo := 1) (n := (n : Int) + 1) (ys := fun i => if i < n then tS (masksL (1 + i)) else []) (fun i m => (tS (masksL (1 + i))).getD m .non) (ea_cons ev_c (ea_cons (ev_op (ev_var rfl) ev_c rv_I0) ea_nil)) (by omega) (fun i => ?_) (fun _ => rfl) (fun _ _ => rfl)
      (fun i H1 e1 hi => ?_) (fun i m z H1 e1 hi hz => ?_)) ?_) q
    · split
      · rw [tS_len]
        exact Nat.le_trans (masks_len (by omega)) (by omega)
      · simp
    · rw [if_pos (by omega)]
      exact el_call (ea_cons (ev_var rfl) ea_nil) fun G e Q q E => ⟨1 + i, by rw [show ((1 : Int) + (i : Int)) = ((1 + i : Nat) : Int) by omega]; rfl, by omega, by omega, q⟩
    · rw [if_pos (by omega)] at hz
      refine ev_is (ev_var rfl) ?_
      rw [List.getD_eq_getElem?_getD, hz]
      rfl
    · rw [show ((n : Int) + 1 - 1).toNat = n by omega, ← masks_flat]
      unfold given2
      rw [List.flatMap_def, List.flatMap_def]
      refine congrArg List.flatten (List.map_congr_left fun i hi => ?_)
      dsimp only
      rw [if_pos (List.mem_range.mp hi)]
end
def cnt (l : List Nat) : Int := ((openM (txt l)).length : Int)
def toldB (row : Str) (l : List Nat) : Bool := decide (viewsM row (txt l)).Nodup
def fewI (ls : List (List Nat)) : Int := (ls.map cnt).min?.getD 0
def toldL (row : Str) (n : Nat) : List (List Nat) := (masksTo n).filter (toldB row)
def leastL (row : Str) (n : Nat) : List (List Nat) := (toldL row n).filter fun l => decide (cnt l = fewI (toldL row n))
def spLeast0 : Sp := fun vs H Q _ => ∃ (row : Str) (n : Nat), vs = [.str row, .int (n : Int)] ∧ isRow row = true ∧ 1 ≤ n ∧ n ≤ 9 ∧ RetL (tS (leastL row (min n row.length))) H Q
theorem toldL_len {row : Str} {n : Nat} (hn : n ≤ 12) : (toldL row n).length ≤ n * 1100 := Nat.le_trans (List.length_filter_le _ _) (masksTo_len hn)
section
variable {P : Program} {w : World} {K : PySem.W.Frag} {mg : Str → Option Value} {base : Heap} {CM CV CG fG CK fK a_SMALL_WIDTH a_SMALL_SEEN : Addr}
theorem ok_leastC (e : Ent K mg "least_masks" s_least_masks p_least_masks) (T : Top K mg CM CV CG fG CK fK a_SMALL_WIDTH a_SMALL_SEEN) (c1 : Cal P w K mg base CX0 3 "check_row" p_check_row spCheckRow) (c2 : Cal P w K mg base CX0 5 "check_number" p_check_number spNumC)
    (c3 : Cal P w K mg base CX0 3 "masks_to" p_masks_to spMasksTo) (c4 : Cal P w K mg base CX0 6 "tells" p_tells spTells) : Cal P w K mg base CX0 7 "least_masks" p_least_masks spLeast0 := by
  obtain ⟨f, fd, F, m_, b_⟩ := e
  obtain ⟨f_check_row, fd_check_row, G_check_row, m_check_row, k_check_row, b_check_row⟩ := c1
  obtain ⟨f_check_number, fd_check_number, G_check_number, m_check_number, k_check_number, b_check_number⟩ := c2
  obtain ⟨f_masks_to, fd_masks_to, G_masks_to, m_masks_to, k_masks_to, b_masks_to⟩ := c3
  obtain ⟨f_tells, fd_tells, G_tells, m_tells, k_tells, b_tells⟩ := c4
  refine ⟨f, fd, F.ok sc_least_masks (fun vs H Q E h => ?_) (fun cdv A outer s H vs Q E hr h => ?_), m_, F.kp, b_⟩
  · obtain ⟨row, n, rfl, _⟩ := h
    rfl
  · obtain ⟨row, n, rfl, hr', hn1, hn9, q1⟩ := h
    have l1 := row_len hr'
    refine ⟨_, (pss_cons (ps_expr (pe_call G_check_row (hr.mono (by decide)) (by rfl) m_check_row k_check_row b_check_row .nil pass0 (pa_cons (pv 0) pa_nil)))
      (pss_cons (ps_expr (pe_call G_check_number (hr.mono (by decide)) (by rfl) m_check_number k_check_number b_check_number .nil pass0 (pa_cons (pv 1) (pa_cons pe_int (pa_cons (pe_glob (v := .int 9) (by rfl) T.g_WIDEST_FOR_A_ROW.choose_spec ⟨_, rfl⟩) pa_nil)))))
      (pss_cons (ps_setLc (i := 2) (own := [("mask", 4)]) (g := gName 4) (by rfl) sc_least_masks.nd rfl rfl (sw_true rfl rfl rfl (by decide +kernel)) (pi_list (pe_call G_masks_to (hr.mono (by decide)) (by rfl) m_masks_to k_masks_to b_masks_to .nil pass0 (pa_cons (pe_callB (call_min2 rfl) (by rfl) T.m_min (by decide +kernel) (pa_cons (pv 1) (pa_cons (pe_callB call_len_str (by rfl) T.m_len (by decide +kernel) (pa_cons (pv 0) pa_nil)) pa_nil))) pa_nil))) (blkOk_by (own := [("mask", 4)]) (N := n_least_masks) (sc := (defScope s_least_masks)) (by decide +kernel)) (fun _ _ _ _ _ => pg_name (i := 4) sc_least_masks.nd rfl (Or.inl rfl)) (fun _ _ _ _ _ => pts_one (pt_val (pe_call G_tells (hr.mono (by decide)) (by rfl) m_tells k_tells b_tells .nil pass0 (pa_cons (pv 0) (pa_cons (pv 4) pa_nil))))) (fun _ _ _ _ _ => (pv 4)))
      (pss_cons (ps_set (i := 3) sc_least_masks.nd rfl (Or.inr rfl) (pe_callBK (cr_minE rfl) (by rfl) T.m_min (by decide +kernel) (pa_cons (pe_lc (own := [("mask", 4)]) (g := gName 4) (by rfl) sc_least_masks.nd (pi_list (pv 2)) (blkOk_by (own := [("mask", 4)]) (N := n_least_masks) (sc := (defScope s_least_masks)) (by decide +kernel)) (fun _ _ _ _ _ => pg_name (i := 4) sc_least_masks.nd rfl (Or.inl rfl)) (fun _ _ _ _ _ => pts_nil) (fun _ _ _ _ _ => (pe_m1 PySem.F.slot_str_count PySem.F.type_str_count mt_count (pv 4) pe_str))) pa_nil) (pk_cons pe_int pk_nil)))
      (pss_one (ps_ret (pe_lc (own := [("mask", 4)]) (g := gName 4) (by rfl) sc_least_masks.nd (pi_list (pv 2)) (blkOk_by (own := [("mask", 4)]) (N := n_least_masks) (sc := (defScope s_least_masks)) (by decide +kernel)) (fun _ _ _ _ _ => pg_name (i := 4) sc_least_masks.nd rfl (Or.inl rfl)) (fun _ _ _ _ _ => pts_one (pt_cmpR op_eq (pe_m1 PySem.F.slot_str_count PySem.F.type_str_count mt_count (pv 4) pe_str) (pv 3) (nomark _))) (fun _ _ _ _ _ => (pv 4))))))))), ?_⟩
    refine q_drop (v := .non) (ev_call (ea_cons (ev_var rfl) ea_nil) fun H1 e1 Q q E => ⟨row, rfl, hr', q⟩) fun H1 e1 => ?_
    refine q_drop (v := .non) (ev_call (ea_cons (ev_var rfl) (ea_cons ev_c (ea_cons ev_c ea_nil))) fun G e Q q E => ⟨(n : Int), 1, 9, rfl, by omega, by omega, q⟩) fun H3 e3 => ?_
    obtain ⟨N, hN⟩ : ∃ N, N = min n row.length := ⟨_, rfl⟩
    have q1' := q1
    rw [← hN] at q1'
    have len1 := masksTo_len (w := N) (by omega)
    have len2 := toldL_len (row := row) (n := N) (by omega)
    have hmin : V.int (if (row.length : Int) < (n : Int) then (row.length : Int) else (n : Int)) = V.int (N : Int) := by
      congr 1
      split <;> omega
    refine q_asgL (xs := tS (toldL row N)) (el_is (el_lcNL (xs := tS (masksTo N)) (fun i => toldB row ((masksTo N).getD i [])) (fun i => V.str (txt ((masksTo N).getD i []))) (el_call (ea_cons (ev_cb (ea_cons (ev_var rfl) (ea_cons (ev_cb (ea_cons (ev_var rfl) ea_nil) (rc_lenS (by omega))) ea_nil)) rc_min2) ea_nil) fun G e Q q E => ⟨N, congrArg (fun v => [v]) hmin, by omega, q⟩)
      (by rw [tS_len]; omega) (fun _ => rfl) (fun i x G e hx => ?_) (fun i x G e hx _ => ?_)) ?_) fun D H4 nD e4 hD => ?_
    · obtain ⟨hi, rfl⟩ := tS_get hx
      exact et_B (ev_call (ea_cons (ev_var rfl) (ea_cons (ev_var rfl) ea_nil)) fun G1 e1 Q q E => ⟨row, _, rfl, hr', (masksTo_each (by omega) (mem_getDL hi)).1, q⟩)
    · obtain ⟨hi, rfl⟩ := tS_get hx
      exact ev_var rfl
    · rw [tS_len, given_filter (masksTo N) [] (toldB row) fun l => V.str (txt l)]
      rfl
    have cw : ∀ {i : Nat} {x : V}, (tS (toldL row N))[i]? = some x → i < (toldL row N).length ∧ x = .str (txt ((toldL row N).getD i [])) := fun hx => tS_get hx
    refine q_asg (v := .int (fewI (toldL row N))) (ev_minE (el_is (el_lcL (xs := tS (toldL row N)) (fun _ => true) (fun i => V.int (cnt ((toldL row N).getD i []))) (ev_var rfl) (sq_of hD) (by rw [tS_len]; omega) (fun _ => rfl) (fun _ _ _ _ _ => et_yes) (fun i x G e hx _ => ?_)) ?_)) fun H5 e5 => ?_
    · obtain ⟨hi, rfl⟩ := cw hx
      refine ev_is (ev_count (z := txt ((toldL row N).getD i [])) (c := 120) (ev_var rfl) (x_eq ▸ ev_c)) ?_
      rw [count_range, len_l]
      rfl
    · rw [given_all, tS_len, range_map_getD (toldL row N) [] fun l => V.int (cnt l), List.map_map]
      rfl
    refine s_retL (xs := tS (leastL row N)) (el_is (el_lcL (xs := tS (toldL row N)) (fun i => (fun l => decide (cnt l = fewI (toldL row N))) ((toldL row N).getD i [])) (fun i => V.str (txt ((toldL row N).getD i []))) (ev_var rfl) (sq_of (e5 _ _ hD)) (by rw [tS_len]; omega) (fun _ => rfl) (fun i x G e hx => ?_) (fun i x G e hx _ => ?_)) ?_)
      fun p H6 np e6 hp => q1' p H6 (fresh_back (((e1.trans e3).trans e4).trans e5) np) ((((e1.trans e3).trans e4).trans e5).trans e6) hp
    · obtain ⟨hi, rfl⟩ := cw hx
      refine et_is (et_test (ev_op (x := .int (cnt ((toldL row N).getD i []))) (ev_is (ev_count (z := txt ((toldL row N).getD i [])) (c := 120) (ev_var rfl) (x_eq ▸ ev_c)) ?_) (ev_var rfl) (rv_eq rfl))) (decide_eq_decide.mpr ⟨fun h => by injection h, fun h => by rw [h]⟩)
      rw [count_range, len_l]
      rfl
    · obtain ⟨hi, rfl⟩ := cw hx
      exact ev_var rfl
    · rw [tS_len, given_filter (toldL row N) [] (fun l => decide (cnt l = fewI (toldL row N))) fun l => V.str (txt l)]
      rfl
end
def LetIn (n : Nat) (r : List Nat) : Prop := ∀ c ∈ r, c ∈ (sgn n).cps.toList
theorem LetIn.abcd {n : Nat} {r : List Nat} (h : LetIn n r) (h4 : n ≤ 4) : ∀ c ∈ r, c ∈ [97, 98, 99, 100] := fun c hc => by
  have z := h c hc
  rw [sgn_l h4] at z
  exact List.mem_of_mem_take z
theorem LetIn.row {n : Nat} {r : List Nat} (h : LetIn n r) (h4 : n ≤ 4) (hl : r.length ≤ 60) : isRow (txt r) = true := isRow_of (by rw [txt_l]; exact h.abcd h4) (by rw [txt_len]; exact hl)
theorem LetIn.made {n : Nat} {r : List Nat} (h : LetIn n r) : madeOf (.str (txt r)) (sgn n) = true := by
  show ((txt r).cps.toList.all fun c => decide (c ∈ (sgn n).cps.toList)) = true
  rw [txt_l, List.all_eq_true]
  exact fun c hc => decide_eq_true (h c hc)
theorem LetIn.snoc {n c : Nat} {r : List Nat} (h : LetIn n r) (hc : c ∈ (sgn n).cps.toList) : LetIn n (r ++ [c]) := fun d hd => by
  rcases List.mem_append.mp hd with z | z
  · exact h d z
  · rw [List.mem_singleton.mp z]; exact hc
theorem cut_txt {u : List Nat} {k : Nat} : cutS (txt u) none (some (k : Int)) = txt (u.take k) := by
  apply str_ext
  unfold cutS
  rw [HT.sIx_none, HT.sIx_nat, List.toList_toArray, txt_l, txt_l, txt_len, List.drop_zero, Nat.sub_zero]
  rcases Nat.le_total k u.length with h | h
  · rw [Nat.min_eq_left h]
  · rw [Nat.min_eq_right h, List.take_of_length_le (Nat.le_refl _), List.take_of_length_le h]
theorem str_txt (z : Str) : z = txt z.cps.toList := str_ext (txt_l _).symm
def spRowIn : Sp := fun vs H Q _ => ∃ (r : List Nat) (n : Nat), vs = [.str (txt r), .int (n : Int)] ∧ LetIn n r ∧ r.length ≤ 60 ∧ 1 ≤ n ∧ n ≤ 4 ∧ RetV .non H Q
def spLetteredC : Sp := fun vs H Q _ => ∃ (r : List Nat) (m : Str) (n : Nat), vs = [.str (txt r), .str m, .int (n : Int)] ∧ isMask m = true ∧ 1 ≤ n ∧ n ≤ 4 ∧ LetIn n r ∧ r.length ≤ 60 ∧ RetV .non H Q
section
variable {P : Program} {w : World} {K : PySem.W.Frag} {mg : Str → Option Value} {base : Heap} {CM CV CG fG CK fK a_SMALL_WIDTH a_SMALL_SEEN : Addr}
theorem ok_row_in (e : Ent K mg "check_row_in" s_check_row_in p_check_row_in) (T : Top K mg CM CV CG fG CK fK a_SMALL_WIDTH a_SMALL_SEEN) (c1 : Cal P w K mg base CX0 3 "check_row" p_check_row spCheckRow) (c2 : Cal P w K mg base CX0 1 "made_of" p_made_of (spMade K)) : Cal P w K mg base CX0 4 "check_row_in" p_check_row_in spRowIn := by
  obtain ⟨f, fd, F, m_, b_⟩ := e
  obtain ⟨f_check_row, fd_check_row, G_check_row, m_check_row, k_check_row, b_check_row⟩ := c1
  obtain ⟨f_made_of, fd_made_of, G_made_of, m_made_of, k_made_of, b_made_of⟩ := c2
  refine ⟨f, fd, F.ok sc_check_row_in (fun vs H Q E h => ?_) (fun cdv A outer s H vs Q E hr h => ?_), m_, F.kp, b_⟩
  · obtain ⟨r, n, rfl, _⟩ := h
    rfl
  · obtain ⟨r, n, rfl, hr', hl, h1, h4, q⟩ := h
    refine ⟨_, (pss_cons (ps_expr (pe_call G_check_row (hr.mono (by decide)) (by rfl) m_check_row k_check_row b_check_row .nil pass0 (pa_cons (pv 0) pa_nil)))
      (pss_one (ps_if (pt_not (pt_val (pe_call G_made_of (hr.mono (by decide)) (by rfl) m_made_of k_made_of b_made_of .nil pass0 (pa_cons (pv 0) (pa_cons (pe_slice sl_str (pe_glob (v := .str (PySem.Str.ofString "abcd")) (by rfl) T.g_LETTERS.choose_spec ⟨_, rfl⟩) po_none (po_some (pv 1))) pa_nil))))) (pss_one ps_never) pss_nil))), ?_⟩
    refine q_drop (v := .non) (ev_call (ea_cons (ev_var rfl) ea_nil) fun H1 e1 Q q E => ⟨txt r, rfl, hr'.row h4 hl, q⟩) fun H1 e1 => ?_
    refine s_when (b := !madeOf (.str (txt r)) (sgn n)) (et_not (et_B (ev_call (ea_cons (ev_var rfl) (ea_cons (ev_slS (z := PySem.Str.ofString "abcd") ev_c eo_none (eo_some (i := (n : Int)) (ev_var rfl)) (by decide +kernel)) ea_nil)) (made_val (.str (by rw [txt_len]; omega)))))) (fun h => ?_) (fun _ H2 e2 => q H2 (e1.trans e2))
    rw [hr'.made] at h
    cases h
theorem ok_letteredC (e : Ent K mg "check_lettered" s_check_lettered p_check_lettered) (T : Top K mg CM CV CG fG CK fK a_SMALL_WIDTH a_SMALL_SEEN) (c1 : Cal P w K mg base (L2.CX P w) 3 "check_mask" p_check_mask (spCheckMask K CM)) (c2 : Cal P w K mg base CX0 2 "check_letters" p_check_letters spLetters) (c3 : Cal P w K mg base CX0 4 "check_row_in" p_check_row_in spRowIn) :
    Cal P w K mg base (L2.CX P w) 5 "check_lettered" p_check_lettered spLetteredC := by
  obtain ⟨f, fd, F, m_, b_⟩ := e
  obtain ⟨f_check_mask, fd_check_mask, G_check_mask, m_check_mask, k_check_mask, b_check_mask⟩ := c1
  obtain ⟨f_check_letters, fd_check_letters, G_check_letters, m_check_letters, k_check_letters, b_check_letters⟩ := c2
  obtain ⟨f_check_row_in, fd_check_row_in, G_check_row_in, m_check_row_in, k_check_row_in, b_check_row_in⟩ := c3
  refine ⟨f, fd, F.okX sc_check_lettered (fun vs H Q E h => ?_) (fun cdv A outer s H vs Q E hr h => ?_), m_, F.kp, b_⟩
  · obtain ⟨r, m, n, rfl, _⟩ := h
    rfl
  · obtain ⟨r, m, n, rfl, hm, h1, h4, hin, hl, q⟩ := h
    have l1 := isMask_len hm
    refine ⟨_, (pss_cons (ps_expr (pe_call G_check_mask (hr.mono (by decide)) (by rfl) m_check_mask k_check_mask b_check_mask .nil (passes_call (takes_of rfl rfl rfl rfl) (fun _ _ _ _ h => h)) (pa_cons (pv 1) pa_nil)))
      (pss_cons (ps_expr (pe_call G_check_letters (hr.mono (by decide)) (by rfl) m_check_letters k_check_letters b_check_letters .nil pass0 (pa_cons (pv 2) pa_nil)))
      (pss_one (ps_expr (pe_call G_check_row_in (hr.mono (by decide)) (by rfl) m_check_row_in k_check_row_in b_check_row_in .nil pass0 (pa_cons (pv 0) (pa_cons (pv 2) pa_nil))))))), ?_⟩
    refine ⟨_, rfl, .str m, rfl, .str (by omega), fun _ H1 e1 => ?_, fun z => by rw [show isMaskV (.str m) = isMask m from rfl, hm] at z; cases z⟩
    refine ⟨_, rfl, n, rfl, h1, h4, fun H2 e2 => ?_⟩
    exact ⟨_, rfl, _, rfl, r, n, rfl, hin, hl, h1, h4, fun H3 e3 => q H3 ((e1.trans e2).trans e3)⟩
theorem lettered0 (c : Cal P w K mg base (L2.CX P w) 5 "check_lettered" p_check_lettered spLetteredC) : Cal P w K mg base CX0 5 "check_lettered" p_check_lettered spLetteredC := c.calm fun vs H Q E h => by
  obtain ⟨r, m, n, rfl, h⟩ := h
  exact ⟨r, m, n, rfl, h⟩
end
def alt (r : List Nat) (i c : Nat) : List Nat := r.take i ++ c :: r.drop (i + 1)
theorem cut_from_txt {u : List Nat} {k : Nat} (h : k ≤ u.length) : cutS (txt u) (some (k : Int)) none = txt (u.drop k) := by
  apply str_ext
  unfold cutS
  rw [HT.sIx_none, HT.sIx_nat, List.toList_toArray, txt_l, txt_l, txt_len, Nat.min_eq_left h, List.take_of_length_le]
  rw [List.length_drop]
  omega
theorem alt_len {r : List Nat} {i c : Nat} (h : i < r.length) : (alt r i c).length = r.length := by
  unfold alt
  rw [List.length_append, List.length_take, List.length_cons, List.length_drop]
  omega
theorem alt_in {n : Nat} {r : List Nat} {i c : Nat} (h : LetIn n r) (hc : c ∈ (sgn n).cps.toList) : LetIn n (alt r i c) := fun d hd => by
  unfold alt at hd
  rcases List.mem_append.mp hd with z | z
  · exact h d (List.mem_of_mem_take z)
  · rcases List.mem_cons.mp z with z | z
    · rw [z]; exact hc
    · exact h d (List.mem_of_mem_drop z)
theorem alt_txt {r : List Nat} {i c : Nat} (h : i < r.length) : (cutS (txt r) none (some (i : Int)) ++ (⟨#[c]⟩ : Str)) ++ cutS (txt r) (some ((i : Int) + 1)) none = txt (alt r i c) := by
  rw [show (i : Int) + 1 = ((i + 1 : Nat) : Int) from rfl, cut_txt, cut_from_txt (by omega)]
  apply str_ext
  rw [str_app, str_app, txt_l, txt_l, txt_l]
  unfold alt
  simp
/-- a letter that can stand at a place instead, and the row is told -/
def weakF (m : Str) (n : Nat) (r : List Nat) (i k : Nat) : Bool := !decide ((sgn n).cps.toList.getD k 0 = r.getD i 0) && decide (viewsM (txt (alt r i ((sgn n).cps.toList.getD k 0))) m).Nodup
def weakL (m : Str) (n : Nat) (r : List Nat) (i : Nat) : List (List V) := givenF (sgn n).length (weakF m n r) (fun i k => [.int (i : Int), sg (sgn n) k]) i
def spWeak : Sp := fun vs H Q _ => ∃ (r : List Nat) (m : Str) (n : Nat), vs = [.str (txt r), .str m, .int (n : Int)] ∧ isMask m = true ∧ 1 ≤ n ∧ n ≤ 4 ∧ LetIn n r ∧ r.length ≤ 60 ∧ RetT (weakL m n r r.length) H Q
theorem eg_is {te : TE} {σ : L2.St} {H : Hp} {xss yss : List (List V)} (h : EvG te σ H xss) (e : xss = yss) : EvG te σ H yss := e ▸ h
theorem sgn_mem {n k : Nat} (h : k < (sgn n).length) : (sgn n).cps.toList.getD k 0 ∈ (sgn n).cps.toList := mem_getD (by rw [len_l]; exact h)
section
variable {P : Program} {w : World} {K : PySem.W.Frag} {mg : Str → Option Value} {base : Heap} {CM CV CG fG CK fK a_SMALL_WIDTH a_SMALL_SEEN : Addr}
theorem ok_weak (e : Ent K mg "weak_letters" s_weak_letters p_weak_letters) (T : Top K mg CM CV CG fG CK fK a_SMALL_WIDTH a_SMALL_SEEN) (c1 : Cal P w K mg base CX0 5 "check_lettered" p_check_lettered spLetteredC) (c2 : Cal P w K mg base CX0 6 "tells" p_tells spTells) : Cal P w K mg base CX0 7 "weak_letters" p_weak_letters spWeak := by
  obtain ⟨f, fd, F, m_, b_⟩ := e
  obtain ⟨f_check_lettered, fd_check_lettered, G_check_lettered, m_check_lettered, k_check_lettered, b_check_lettered⟩ := c1
  obtain ⟨f_tells, fd_tells, G_tells, m_tells, k_tells, b_tells⟩ := c2
  refine ⟨f, fd, F.ok sc_weak_letters (fun vs H Q E h => ?_) (fun cdv A outer s H vs Q E hr h => ?_), m_, F.kp, b_⟩
  · obtain ⟨r, m, n, rfl, _⟩ := h
    rfl
  · obtain ⟨r, m, n, rfl, hm, h1, h4, hin, hl, q⟩ := h
    refine ⟨_, (pss_cons (ps_expr (pe_call G_check_lettered (hr.mono (by decide)) (by rfl) m_check_lettered k_check_lettered b_check_lettered .nil pass0 (pa_cons (pv 0) (pa_cons (pv 1) (pa_cons (pv 2) pa_nil)))))
      (pss_one (ps_ret (pe_lc2 (own := [("place", 3), ("sign", 4)]) (vs1 := [4]) (g := (gName 3)) (g1 := (gName 4)) (by rfl) sc_weak_letters.nd (pi_range1 (by rfl) T.m_range (pa_cons (pe_callB call_len_str (by rfl) T.m_len (by decide +kernel) (pa_cons (pv 0) pa_nil)) pa_nil)) (blkOk_by (own := [("place", 3), ("sign", 4)]) (N := n_weak_letters) (sc := (defScope s_weak_letters)) (by decide +kernel)) (by decide) (fun _ _ _ _ _ => pg_name (i := 3) sc_weak_letters.nd rfl (Or.inl rfl)) (fun _ _ _ _ _ => pts_nil) (fun _ _ _ _ _ => by exact (pi_str (pe_slice sl_str (pe_glob (v := .str (PySem.Str.ofString "abcd")) (by rfl) T.g_LETTERS.choose_spec ⟨_, rfl⟩) po_none (po_some (pv 2))))) (fun _ _ _ _ _ => pg_name (i := 4) sc_weak_letters.nd rfl (Or.inl rfl)) (fun _ _ _ _ _ => pts_one (PW.pt (pw_and (pt_cmpR op_ne (pv 4) (pe_ix ix_str (pv 0) (pv 3) (fun _ _ => rfl)) (nomark _)) (pw_and1 (pt_val (pe_call G_tells (hr.mono (by decide)) (by rfl) m_tells k_tells b_tells .nil pass0 (pa_cons (pe_op op_add_str (pe_op op_add_str (pe_slice sl_str (pv 0) po_none (po_some (pv 3))) (pv 4)) (pe_slice sl_str (pv 0) (po_some (pe_op op_add (pv 3) pe_int)) po_none)) (pa_cons (pv 1) pa_nil)))))))) (fun _ _ _ _ _ => (pe_tup (pa_cons (pv 3) (pa_cons (pv 4) pa_nil)))))))), ?_⟩
    refine q_drop (v := .non) (ev_call (ea_cons (ev_var rfl) (ea_cons (ev_var rfl) (ea_cons (ev_var rfl) ea_nil))) fun G e Q q E => ⟨r, m, n, rfl, hm, h1, h4, hin, hl, q⟩) fun H1 e1 => ?_
    refine s_retG (xss := weakL m n r r.length) ?_ fun p H2 np e2 hp => q p H2 (fresh_back e1 np) (e1.trans e2) hp
    refine eg_is (eg_lc2RS (n := (r.length : Int)) (z := sgn n) (weakF m n r) (fun i _ => V.int (i : Int)) (fun _ k => sg (sgn n) k) (ea_cons (ev_is (ev_cb (ea_cons (ev_var rfl) ea_nil) (rc_lenS (z := txt r) (by rw [txt_len]; omega))) (by rw [txt_len])) ea_nil) (by omega) (by rw [sgn_len h4]; omega) (fun _ => rfl) (fun _ _ => rfl)
      (fun i G e hi => ev_slS (z := PySem.Str.ofString "abcd") ev_c eo_none (eo_some (i := (n : Int)) (ev_var rfl)) (by decide +kernel)) (fun i k G e hi hk => ?_) (fun i k G e hi hk => ev_var rfl) (fun i k G e hi hk => ev_var rfl)) (by rw [Int.toNat_natCast]; rfl)
    · have hi' : i < r.length := by omega
      refine et_and (et_is (et_test (ev_op (ev_var rfl) (ev_op (ev_var rfl) (ev_var rfl) (rv_ixS (by rw [txt_len]; omega) (at_sign (by rw [txt_len]; omega)))) rv_chrs)) (by rw [txt_l])) fun _ => ?_
      refine et_B (ev_call (vs := [.str (txt (alt r i ((sgn n).cps.toList.getD k 0))), .str m]) (ea_cons (ev_is (ev_op (ev_op (ev_slS (ev_var rfl) eo_none (eo_some (i := (i : Int)) (ev_var rfl)) (by rw [txt_len]; omega)) (ev_var rfl) (rv_addS ?_)) (ev_slS (ev_var rfl) (eo_some (i := (i : Int) + 1) (ev_op (ev_var rfl) ev_c rv_I0)) eo_none (by rw [txt_len]; omega)) (rv_addS ?_)) (by rw [alt_txt hi'])) (ea_cons (ev_var rfl) ea_nil)) fun G2 e2 Q q E => ⟨_, m, rfl, (alt_in hin (sgn_mem hk)).row h4 (by rw [alt_len hi']; exact hl), hm, q⟩)
      · rw [cut_txt, txt_len, List.length_take]
        show _ + 1 ≤ _
        omega
      · have := congrArg Str.length (alt_txt (c := (sgn n).cps.toList.getD k 0) hi')
        rw [txt_len, alt_len hi', app_len] at this
        omega
end
end K24
namespace K24
open PySem PySem.Spec PyProof.Rows L2 Evl Qt
def placesM (one other : Str) (d : Nat) : List Int := (openM one).map (fun (i : Nat) => (i : Int)) ++ (openM other).map fun (i : Nat) => (d : Int) + (i : Int)
def widthM (one other : Str) (d : Nat) : Nat := if d + other.length > one.length then d + other.length else one.length
def togM (one other : Str) (d : Nat) : Str := txt ((List.range (widthM one other d)).map fun p => if ((p : Nat) : Int) ∈ placesM one other d then 120 else 46)
def spTog0 (K : PySem.W.Frag) : Sp := fun vs H Q _ => ∃ one other d, vs = [.str one, .str other, .int ((d : Nat) : Int)] ∧ isMask one = true ∧ isMask other = true ∧ d + other.length ≤ 12 ∧ RetV (.str (togM one other d)) H Q
section
variable {P : Program} {w : World} {K : PySem.W.Frag} {mg : Str → Option Value} {base : Heap} {CM CV CG fG CK fK a_SMALL_WIDTH a_SMALL_SEEN : Addr}
theorem places_eq (one other : Str) (d : Nat) : (placesM one other d).map V.int = natsV (openM one) ++ (openM other).map fun (i : Nat) => V.int ((d : Int) + (i : Int)) := by
  unfold placesM natsV
  rw [List.map_append, List.map_map, List.map_map]
  rfl
/-- [far + place for place in a new list] -/
theorem el_shift {σ : L2.St} {H : Hp} {tl te : TE} {l : List Nat} {d : Nat} {j : Nat} {vs : List Nat} (h : EvL tl σ H (natsV l)) (hz : l.length ≤ 40000) (hw : ∀ x, wipe ((wipe σ vs).set j (some x)) vs = wipe σ vs)
    (he : ∀ (i : Int) H1, Ex H H1 → Ev te ((wipe σ vs).set j (some (.int i))) H1 (.int ((d : Int) + i))) : EvL (tLc (iList K tl) (gName j) tYes te vs) σ H (l.map fun (i : Nat) => V.int ((d : Int) + (i : Int))) := by
  have z := el_lcNL (K := K) (fun _ => true) (fun i => V.int ((d : Int) + ((l.getD i 0 : Nat) : Int))) h (by rw [natsV_len]; exact hz) hw (fun _ _ _ _ _ => et_yes) (fun i x H1 e hx _ => by
    obtain ⟨_, rfl⟩ := natsV_get hx
    exact he _ H1 e)
  rw [given_all, natsV_len, range_getD l fun c => V.int ((d : Int) + (c : Int))] at z
  exact z
theorem dot_eq : PySem.Str.ofString "." = ⟨#[46]⟩ := by decide +kernel
end
def distL (row m : Str) : List Int := (List.range (row.length + 1 - m.length)).flatMap fun i => (List.range (row.length + 1 - m.length - (i + 1))).map fun k => (missM (viewM row (openM m) i) (viewM row (openM m) (i + 1 + k)) : Int)
def minV (ns : List Int) : V := match ns.min? with
  | none => .non
  | some k => .int k
theorem minV_nil : minV [] = .non := rfl
theorem minV_of {ns : List Int} {k : Int} (h : k ∈ ns) (hl : ∀ z ∈ ns, k ≤ z) : minV ns = .int k := by
  have e : ns.min? = some k := List.min?_eq_some_iff.mpr ⟨h, hl⟩
  unfold minV
  rw [e]
def spDist : Sp := fun vs H Q _ => ∃ row m : Str, vs = [.str row, .str m] ∧ isRow row = true ∧ isMask m = true ∧ RetV (minV (distL row m)) H Q
theorem cut_fromV {xs : List V} {k : Nat} (h : k ≤ xs.length) : cutV xs (some (k : Int)) none = xs.drop k := by
  unfold cutV
  rw [HT.sIx_none, HT.sIx_nat, Nat.min_eq_left h, List.take_of_length_le]
  rw [List.length_drop]
  omega
section
variable {P : Program} {w : World} {K : PySem.W.Frag} {mg : Str → Option Value} {base : Heap} {CM CV CG fG CK fK a_SMALL_WIDTH a_SMALL_SEEN : Addr}
theorem ok_distance (e : Ent K mg "distance" s_distance p_distance) (T : Top K mg CM CV CG fG CK fK a_SMALL_WIDTH a_SMALL_SEEN) (c1 : Cal P w K mg base CX0 5 "views" p_views spViews) (c2 : Cal P w K mg base CX0 1 "others" p_others spOthers) : Cal P w K mg base CX0 6 "distance" p_distance spDist := by
  obtain ⟨f, fd, F, m_, b_⟩ := e
  obtain ⟨f_views, fd_views, G_views, m_views, k_views, b_views⟩ := c1
  obtain ⟨f_others, fd_others, G_others, m_others, k_others, b_others⟩ := c2
  refine ⟨f, fd, F.ok sc_distance (fun vs H Q E h => ?_) (fun cdv A outer s H vs Q E hr h => ?_), m_, F.kp, b_⟩
  · obtain ⟨row, m, rfl, _⟩ := h
    rfl
  · obtain ⟨row, m, rfl, hr', hm, q⟩ := h
    have l1 := row_len hr'
    have l2 := isMask_len hm
    have l3 := open_len m
    have lv := viewsM_len row m
    refine ⟨_, (pss_cons (ps_set (i := 2) sc_distance.nd rfl (Or.inr rfl) (pe_call G_views (hr.mono (by decide)) (by rfl) m_views k_views b_views .nil pass0 (pa_cons (pv 0) (pa_cons (pv 1) pa_nil))))
      (pss_cons (ps_setLc2 (i := 3) (own := [("at", 4), ("one", 5), ("other", 6)]) (vs1 := [6]) (g := (gTup K 2 (gCons (gName 4) (gCons (gName 5) gNil)))) (g1 := (gName 6)) (by rfl) sc_distance.nd rfl rfl (sw_true rfl rfl rfl (by decide +kernel)) (pi_enum (by rfl) T.m_enumerate (pa_cons (pv 2) pa_nil)) (blkOk_by (own := [("at", 4), ("one", 5), ("other", 6)]) (N := n_distance) (sc := (defScope s_distance)) (by decide +kernel)) (by decide) (fun _ _ _ _ _ => by exact (pg_tup rfl (pgs_cons (by exact pg_name (i := 4) sc_distance.nd rfl (Or.inl rfl)) (pgs_cons (by exact pg_name (i := 5) sc_distance.nd rfl (Or.inl rfl)) pgs_nil)))) (fun _ _ _ _ _ => pts_nil) (fun _ _ _ _ _ => by exact ((pi_listK K rfl) (pe_slice (sl_listK K rfl) (pv 2) (po_some (pe_op op_add (pv 4) pe_int)) po_none))) (fun _ _ _ _ _ => pg_name (i := 6) sc_distance.nd rfl (Or.inl rfl)) (fun _ _ _ _ _ => pts_nil) (fun _ _ _ _ _ => (pe_call G_others (hr.mono (by decide)) (by rfl) m_others k_others b_others .nil pass0 (pa_cons (pv 5) (pa_cons (pv 6) pa_nil)))))
      (pss_one (ps_ret (pe_callBK (cr_minD rfl) (by rfl) T.m_min (by decide +kernel) (pa_cons (pv 3) pa_nil) (pk_cons pe_non pk_nil)))))), ?_⟩
    refine q_asgL (xs := (viewsM row m).map V.str) (el_call (ea_cons (ev_var rfl) (ea_cons (ev_var rfl) ea_nil)) fun H1 e1 Q q E => ⟨row, m, rfl, hr', hm, q⟩) fun a H1 na e1 ha => ?_
    have y := el_lc2 (K := K) (te := tCall spOthers [] E0 (tCons (tVar 5) (tCons (tVar 6) tNil))) (til := tSl (rSlL K) (tVar 2) (tPart (tOp (rI0 fun i j => V.int (i + j)) (tVar 4) (tC (.int 1)))) tNoPart) (ta := tCons (tVar 2) tNil) (j := 4) (k := 5) (l := 6) (vs := [4, 5, 6]) (vs1 := [6])
      (σ := (start n_distance [.str row, .str m]).set 2 (some (.ref a))) (H := H1) (a := a) (xs := (viewsM row m).map V.str) (ys := fun i => ((viewsM row m).map V.str).drop (i + 1)) (fun i k => V.int (missM (viewM row (openM m) i) (viewM row (openM m) (i + 1 + k)) : Int))
      (ea_cons (ev_var rfl) ea_nil) (sq_of ha) (by rw [List.length_map, lv]; omega) (fun i => by rw [List.length_drop, List.length_map, lv]; omega) (fun _ _ => rfl) (fun _ _ _ => rfl)
      (fun i y H2 e2 hy => by
        obtain ⟨hi, rfl⟩ := views_get hy
        have z := el_sl (K := K) (lo := some ((i : Int) + 1)) (hi := none) (te := tVar 2) (tl := tPart (tOp (rI0 fun i j => V.int (i + j)) (tVar 4) (tC (.int 1)))) (th := tNoPart) (σ := (((wipe ((start n_distance [.str row, .str m]).set 2 (some (.ref a))) [4, 5, 6]).set 4 (some (.int (i : Int)))).set 5 (some (.str (viewM row (openM m) i))))) (H := H2)
          (ev_var rfl) (eo_some (ev_op (ev_var rfl) ev_c rv_I0)) eo_none (sq_of (e2 _ _ ha))
        rw [show ((i : Int) + 1) = ((i + 1 : Nat) : Int) from rfl, cut_fromV (by rw [List.length_map, lv]; omega)] at z
        exact z)
      (fun i k y z H2 e2 hy hz => by
        obtain ⟨hi, rfl⟩ := views_get hy
        rw [List.getElem?_drop] at hz
        obtain ⟨hk, rfl⟩ := views_get hz
        exact ev_call (ea_cons (ev_var rfl) (ea_cons (ev_var rfl) ea_nil)) fun H3 e3 Q q E => ⟨_, _, rfl, by rw [view_len, view_len], by rw [view_len]; omega, q⟩)
    have ey : given2 (fun i => (((viewsM row m).map V.str).drop (i + 1)).length) (fun i k => V.int (missM (viewM row (openM m) i) (viewM row (openM m) (i + 1 + k)) : Int)) ((viewsM row m).map V.str).length = (distL row m).map V.int := by
      unfold given2 distL
      rw [List.map_flatMap, List.length_map, lv]
      congr 1
      funext i
      dsimp only
      rw [List.length_drop, List.length_map, lv, List.map_map]
      rfl
    rw [ey] at y
    refine q_asgL y fun p H2 np e2 h2 => ?_
    refine ⟨_, rfl, p, distL row m, rfl, rfl, sq_of h2, fun h0 => ?_, fun k hk hle => ?_⟩
    · have z := q H2 (e1.trans e2)
      rw [h0, minV_nil] at z
      exact z
    · have z := q H2 (e1.trans e2)
      rw [minV_of hk hle] at z
      exact z
end
def spMaskC : Sp := fun vs H Q _ => ∃ m, vs = [.str m] ∧ isMask m = true ∧ RetV .non H Q
def standB (ns : List Int) (t : Int) : Bool := match ns.min? with
  | none => true
  | some k => decide (t < k)
def spStandsG : Sp := fun vs H Q _ => ∃ (row m : Str) (wr cv : Nat), vs = [.str row, .str m, .int (wr : Int), .int (cv : Int)] ∧ isRow row = true ∧ isMask m = true ∧ wr ≤ 12 ∧ cv ≤ 12 ∧ RetV (.bl (standB (distL row m) (2 * (wr : Int) + (cv : Int)))) H Q
section
variable {P : Program} {w : World} {K : PySem.W.Frag} {mg : Str → Option Value} {base : Heap} {CM CV CG fG CK fK a_SMALL_WIDTH a_SMALL_SEEN : Addr}
theorem maskC (c : Cal P w K mg base (L2.CX P w) 3 "check_mask" p_check_mask (spCheckMask K CM)) : Cal P w K mg base CX0 3 "check_mask" p_check_mask spMaskC := c.calm fun vs H Q E h => by
  obtain ⟨m, rfl, hm, q⟩ := h
  have hl := isMask_len hm
  exact ⟨.str m, rfl, .str (by omega), fun _ => q, fun z => by
    have z' : isMask m = false := z
    rw [hm] at z'
    cases z'⟩
theorem ok_togC (e : Ent K mg "together" s_together p_together) (T : Top K mg CM CV CG fG CK fK a_SMALL_WIDTH a_SMALL_SEEN) (c1 : Cal P w K mg base CX0 3 "check_mask" p_check_mask spMaskC)
    (c2 : Cal P w K mg base CX0 5 "check_number" p_check_number spNumC) (c3 : Cal P w K mg base CX0 4 "seen" p_seen (spSeen0 K)) : Cal P w K mg base CX0 6 "together" p_together (spTog0 K) := by
  obtain ⟨f, fd, F, m_, b_⟩ := e
  obtain ⟨f_check_mask, fd_check_mask, G_check_mask, m_check_mask, k_check_mask, b_check_mask⟩ := c1
  obtain ⟨f_check_number, fd_check_number, G_check_number, m_check_number, k_check_number, b_check_number⟩ := c2
  obtain ⟨f_seen, fd_seen, G_seen, m_seen, k_seen, b_seen⟩ := c3
  refine ⟨f, fd, F.ok sc_together (fun vs H Q E h => ?_) (fun cdv A outer s H vs Q E hr h => ?_), m_, F.kp, b_⟩
  · obtain ⟨one, other, d, rfl, _⟩ := h
    rfl
  · obtain ⟨one, other, d, rfl, m1, m2, hd, q1⟩ := h
    have l1 := isMask_len m1
    have l2 := isMask_len m2
    refine ⟨_, (pss_cons (ps_expr (pe_call G_check_mask (hr.mono (by decide)) (by rfl) m_check_mask k_check_mask b_check_mask .nil pass0 (pa_cons (pv 0) pa_nil)))
      (pss_cons (ps_expr (pe_call G_check_mask (hr.mono (by decide)) (by rfl) m_check_mask k_check_mask b_check_mask .nil pass0 (pa_cons (pv 1) pa_nil)))
      (pss_cons (ps_expr (pe_call G_check_number (hr.mono (by decide)) (by rfl) m_check_number k_check_number b_check_number .nil pass0 (pa_cons (pv 2) (pa_cons pe_int (pa_cons (pe_op op_sub (pe_glob (v := .int 12) (by rfl) T.g_WIDEST.choose_spec ⟨_, rfl⟩) (pe_callB call_len_str (by rfl) T.m_len (by decide +kernel) (pa_cons (pv 1) pa_nil))) pa_nil)))))
      (pss_cons (ps_set (i := 3) sc_together.nd rfl (Or.inr rfl) (pe_op op_cat (pe_call G_seen (hr.mono (by decide)) (by rfl) m_seen k_seen b_seen .nil pass0 (pa_cons (pv 0) pa_nil)) (pe_lc (own := [("place", 5)]) (g := gName 5) (by rfl) sc_together.nd (pi_list (pe_call G_seen (hr.mono (by decide)) (by rfl) m_seen k_seen b_seen .nil pass0 (pa_cons (pv 1) pa_nil))) (blkOk_by (own := [("place", 5)]) (N := n_together) (sc := (defScope s_together)) (by decide +kernel)) (fun _ _ _ _ _ => pg_name (i := 5) sc_together.nd rfl (Or.inl rfl)) (fun _ _ _ _ _ => pts_nil) (fun _ _ _ _ _ => (pe_op op_add (pv 2) (pv 5))))))
      (pss_cons (ps_set (i := 4) sc_together.nd rfl (Or.inl rfl) (pe_callB (call_max2 rfl) (by rfl) T.m_max (by decide +kernel) (pa_cons (pe_callB call_len_str (by rfl) T.m_len (by decide +kernel) (pa_cons (pv 0) pa_nil)) (pa_cons (pe_op op_add (pv 2) (pe_callB call_len_str (by rfl) T.m_len (by decide +kernel) (pa_cons (pv 1) pa_nil))) pa_nil))))
      (pss_one (ps_ret (pe_join pe_str (pe_lc (own := [("place", 5)]) (g := gName 5) (by rfl) sc_together.nd (pi_range1 (by rfl) T.m_range (pa_cons (pv 4) pa_nil)) (blkOk_by (own := [("place", 5)]) (N := n_together) (sc := (defScope s_together)) (by decide +kernel)) (fun _ _ _ _ _ => pg_name (i := 5) sc_together.nd rfl (Or.inl rfl)) (fun _ _ _ _ _ => pts_nil) (fun _ _ _ _ _ => (pe_ifExp (pt_cmpR (op_in_seqK K rfl) (pv 5) (pv 3) (by rfl)) pe_str pe_str))))))))))), ?_⟩
    refine q_drop (v := .non) (ev_call (ea_cons (ev_var rfl) ea_nil) fun G e Q q E => ⟨one, rfl, m1, q⟩) fun H1 e1 => ?_
    refine q_drop (v := .non) (ev_call (ea_cons (ev_var rfl) ea_nil) fun G e Q q E => ⟨other, rfl, m2, q⟩) fun H2 e2 => ?_
    have e12 := e1.trans e2
    refine q_drop (v := .non) (ev_call (vs := [.int (d : Int), .int 0, .int (12 - (other.length : Int))]) (ea_cons (ev_var rfl) (ea_cons ev_c (ea_cons (ev_op ev_c (ev_cb (ea_cons (ev_var rfl) ea_nil) (rc_lenS (by omega))) rv_I0) ea_nil))) fun G e Q q E => ⟨(d : Int), 0, 12 - (other.length : Int), rfl, by omega, by omega, q⟩) fun H3 e3 => ?_
    have o1 := open_len one
    have o2 := open_len other
    have cat : EvL (tOp rCat (tCall (spSeen0 K) [] E0 (tCons (tVar 0) tNil)) (tLc (iList K (tCall (spSeen0 K) [] E0 (tCons (tVar 1) tNil))) (gName 5) tYes (tOp (rI0 fun i j => V.int (i + j)) (tVar 2) (tVar 5)) [5]))
        (start n_together [.str one, .str other, .int (d : Int)]) H3 ((placesM one other d).map V.int) := by
      rw [places_eq]
      refine el_cat (el_call (ea_cons (ev_var rfl) ea_nil) (fun G e Q q E => ⟨one, rfl, m1, q⟩)) (fun H4 e4 => el_shift (el_call (ea_cons (ev_var rfl) ea_nil) (fun G e Q q E => ⟨other, rfl, m2, q⟩)) (by omega) (fun _ => rfl) fun i H5 e5 => ev_op (ev_var rfl) (ev_var rfl) rv_I0) ?_
      rw [natsV_len, List.length_map]
      omega
    refine q_asgL cat fun p H4 np e4 h4 => ?_
    have lp : (placesM one other d).length ≤ 24 := by
      unfold placesM
      rw [List.length_append, List.length_map, List.length_map]
      omega
    have ew : Ev (tCB rMax2 (tCons (tCB (fun xs H Q => ∃ z : Str, xs = [.str z] ∧ z.length ≤ sizeLine ∧ Q (.int (z.length : Int)) H) (tCons (tVar 0) tNil)) (tCons (tOp (rI0 fun i j => V.int (i + j)) (tVar 2) (tCB (fun xs H Q => ∃ z : Str, xs = [.str z] ∧ z.length ≤ sizeLine ∧ Q (.int (z.length : Int)) H) (tCons (tVar 1) tNil))) tNil)))
        ((start n_together [.str one, .str other, .int (d : Int)]).set 3 (some (.ref p))) H4 (.int ((widthM one other d : Nat) : Int)) := by
      refine ev_is (ev_max2 (ev_cb (ea_cons (ev_var rfl) ea_nil) (rc_lenS (z := one) (by omega))) (ev_op (ev_var rfl) (ev_cb (ea_cons (ev_var rfl) ea_nil) (rc_lenS (z := other) (by omega))) rv_I0)) ?_
      unfold widthM
      congr 1
      by_cases hc : d + other.length > one.length
      · rw [if_pos hc, if_pos (by omega)]
        omega
      · rw [if_neg hc, if_neg (by omega)]
    refine q_asg ew fun H5 e5 => ?_
    have lw : widthM one other d ≤ 12 := by
      unfold widthM
      split <;> omega
    have h5 := e5 _ _ h4
    refine s_ret (v := .str (togM one other d)) (ev_join nil_l (l := (List.range (widthM one other d)).map fun p => if ((p : Nat) : Int) ∈ placesM one other d then 120 else 46) ?_ (by rw [List.length_map, List.length_range]; omega)) fun H6 e6 => q1 H6 ((((e12.trans e3).trans e4).trans e5).trans e6)
    have z := el_lcR1 (te := tIf (tTest (tOp (rIn K false) (tVar 5) (tVar 3))) (tC (V.str (PySem.Str.ofString "x"))) (tC (V.str (PySem.Str.ofString ".")))) (t := tYes) (ta := tCons (tVar 4) tNil) (j := 5) (vs := [5])
      (σ := ((start n_together [.str one, .str other, .int (d : Int)]).set 3 (some (.ref p))).set 4 (some (.int ((widthM one other d : Nat) : Int)))) (H := H5) (n := ((widthM one other d : Nat) : Int))
      (fun _ => true) (fun i => V.str ⟨#[if ((i : Nat) : Int) ∈ placesM one other d then 120 else 46]⟩) (ea_cons (ev_var rfl) ea_nil) (by omega) (fun _ => rfl) (fun _ _ _ _ => et_yes) (fun i H6 e6 hi _ => ?_)
    · rw [given_all, Int.toNat_natCast] at z
      rw [List.map_map]
      exact z
    · refine ev_if (b := decide ((i : Int) ∈ placesM one other d)) ?_ (fun hb => ?_) (fun hb => ?_)
      · rw [← inV_ints]
        exact et_test (ev_op (ev_var rfl) (ev_var rfl) (rv_isL (sq_of (e6 _ _ h5)) rfl (flat_ints _)))
      · rw [if_pos (of_decide_eq_true hb), ← x_eq]
        exact ev_c
      · rw [if_neg (of_decide_eq_false hb), ← dot_eq]
        exact ev_c
theorem ok_standsG (e : Ent K mg "stands" s_stands p_stands) (T : Top K mg CM CV CG fG CK fK a_SMALL_WIDTH a_SMALL_SEEN) (c1 : Cal P w K mg base CX0 6 "distance" p_distance spDist) (c2 : Cal P w K mg base CX0 5 "check_number" p_check_number spNumC) : Cal P w K mg base CX0 7 "stands" p_stands spStandsG := by
  obtain ⟨f, fd, F, m_, b_⟩ := e
  obtain ⟨f_distance, fd_distance, G_distance, m_distance, k_distance, b_distance⟩ := c1
  obtain ⟨f_check_number, fd_check_number, G_check_number, m_check_number, k_check_number, b_check_number⟩ := c2
  refine ⟨f, fd, F.ok sc_stands (fun vs H Q E h => ?_) (fun cdv A outer s H vs Q E hr h => ?_), m_, F.kp, b_⟩
  · obtain ⟨row, m, wr, cv, rfl, _⟩ := h
    rfl
  · obtain ⟨row, m, wr, cv, rfl, hr', hm, hw, hc, q⟩ := h
    refine ⟨_, (pss_cons (ps_set (i := 4) sc_stands.nd rfl (Or.inl rfl) (pe_call G_distance (hr.mono (by decide)) (by rfl) m_distance k_distance b_distance .nil pass0 (pa_cons (pv 0) (pa_cons (pv 1) pa_nil))))
      (pss_cons (ps_expr (pe_call G_check_number (hr.mono (by decide)) (by rfl) m_check_number k_check_number b_check_number .nil pass0 (pa_cons (pv 2) (pa_cons pe_int (pa_cons pe_int pa_nil)))))
      (pss_cons (ps_expr (pe_call G_check_number (hr.mono (by decide)) (by rfl) m_check_number k_check_number b_check_number .nil pass0 (pa_cons (pv 3) (pa_cons pe_int (pa_cons pe_int pa_nil)))))
      (pss_one (ps_ret (pe_or (pe_cmpR op_isN (pv 4) pe_non (nomark _)) (pe_one (pe_cmpR op_gt (pv 4) (pe_op op_add (pe_op op_mul pe_int (pv 2)) (pv 3)) (nomark _))))))))), ?_⟩
    refine q_asg (ev_call (ea_cons (ev_var rfl) (ea_cons (ev_var rfl) ea_nil)) fun G e Q q E => ⟨row, m, rfl, hr', hm, q⟩) fun H1 e1 => ?_
    refine q_drop (v := .non) (ev_call (ea_cons (ev_var rfl) (ea_cons ev_c (ea_cons ev_c ea_nil))) fun G e Q q E => ⟨(wr : Int), 0, 12, rfl, by omega, by omega, q⟩) fun H2 e2 => ?_
    refine q_drop (v := .non) (ev_call (ea_cons (ev_var rfl) (ea_cons ev_c (ea_cons ev_c ea_nil))) fun G e Q q E => ⟨(cv : Int), 0, 12, rfl, by omega, by omega, q⟩) fun H3 e3 => ?_
    have e03 := (e1.trans e2).trans e3
    unfold standB at q
    unfold minV
    cases hd : (distL row m).min? with
    | none =>
      rw [hd] at q
      exact s_ret (v := .bl true) (ev_is (ev_orV (a := decide (V.non = V.non)) (b := true) (ev_op (ev_var rfl) ev_c rv_isN) fun h => by simp at h) (by simp)) fun H4 e4 => q H4 (e03.trans e4)
    | some k =>
      rw [hd] at q
      exact s_ret (v := .bl (decide (2 * (wr : Int) + (cv : Int) < k))) (ev_is (ev_orV (a := decide (V.int k = V.non)) (b := decide (2 * (wr : Int) + (cv : Int) < k)) (ev_op (ev_var rfl) ev_c rv_isN) fun _ => ev_op (ev_var rfl) (ev_op (ev_op ev_c (ev_var rfl) (rv_I (.inr ⟨by omega, by omega⟩))) (ev_var rfl) rv_I0) rv_I0) (by simp)) fun H4 e4 => q H4 (e03.trans e4)
end
end K24
namespace K24
open PySem PySem.Spec PyProof.Rows L2 Evl Qt
abbrev Told (m : Str) (r : List Nat) : Prop := (vws (openM m) m.length r).Nodup
theorem views_told {m : Str} {r : List Nat} : decide (viewsM (txt r) m).Nodup = decide (Told m r) := by
  rw [views_vws]
  exact decide_eq_decide.mpr nodup_txt
theorem told_back {m : Str} {r : List Nat} {c : Nat} (h : Told m (r ++ [c])) : Told m r := by
  unfold Told at h ⊢
  rw [vws_snoc (fun p hp => open_lt hp)] at h
  exact (List.nodup_append.mp h).1
def nextL (m : Str) (n : Nat) (r : List Nat) : List Nat := (sgn n).cps.toList.filter fun c => decide (Told m (r ++ [c]))
theorem told_few {m : Str} {r : List Nat} (h : r.length ≤ m.length) : Told m r := by
  unfold Told vws
  have : r.length + 1 - m.length = 0 ∨ r.length + 1 - m.length = 1 := by omega
  rcases this with e | e
  · rw [e]; simp
  · rw [e]; simp
theorem told_in {m : Str} {r : List Nat} {c : Nat} (h : Told m r) (hw : m.length ≤ r.length + 1) : Told m (r ++ [c]) ↔ vw (openM m) (r ++ [c]) (r.length + 1 - m.length) ∉ vws (openM m) m.length r := by
  unfold Told at h ⊢
  rw [vws_snoc (openM_lt m), if_pos hw, nodup_snoc]
  exact ⟨fun z => z.2, fun z => ⟨h, z⟩⟩
def spNext0 : Sp := fun vs H Q _ => ∃ r m n, vs = [.str (txt r), .str m, .int ((n : Nat) : Int)] ∧ isMask m = true ∧ 1 ≤ n ∧ n ≤ 4 ∧ LetIn n r ∧ r.length ≤ 60 ∧ RetV (.str (txt (nextL m n r))) H Q
def spFarthest0 : Sp := fun vs H Q _ => ∃ r m n, vs = [.str (txt r), .str m, .int ((n : Nat) : Int)] ∧ SmallM m n ∧ LetIn n r ∧ r.length ≤ 60 ∧ (¬ Told m r → RetV .non H Q) ∧ (∀ k, Told m r → TopF 1 m n r k → RetV (.int ((r.length + k : Nat) : Int)) H Q)
section
variable {P : Program} {w : World} {K : PySem.W.Frag} {mg : Str → Option Value} {base : Heap} {CM CV CG fG CK fK a_SMALL_WIDTH a_SMALL_SEEN : Addr}
theorem ok_nextC (e : Ent K mg "next_letters" s_next_letters p_next_letters) (T : Top K mg CM CV CG fG CK fK a_SMALL_WIDTH a_SMALL_SEEN) (c1 : Cal P w K mg base CX0 5 "check_lettered" p_check_lettered spLetteredC) (c2 : Cal P w K mg base CX0 6 "tells" p_tells spTells) (c3 : Cal P w K mg base CX0 5 "views" p_views spViews)
    (c4 : Cal P w K mg base CX0 4 "seen" p_seen (spSeen0 K)) (c5 : Cal P w K mg base CX0 1 "view_at" p_view_at (spViewAt K)) : Cal P w K mg base CX0 7 "next_letters" p_next_letters spNext0 := by
  obtain ⟨f, fd, F, m_, b_⟩ := e
  obtain ⟨f_check_lettered, fd_check_lettered, G_check_lettered, m_check_lettered, k_check_lettered, b_check_lettered⟩ := c1
  obtain ⟨f_tells, fd_tells, G_tells, m_tells, k_tells, b_tells⟩ := c2
  obtain ⟨f_views, fd_views, G_views, m_views, k_views, b_views⟩ := c3
  obtain ⟨f_seen, fd_seen, G_seen, m_seen, k_seen, b_seen⟩ := c4
  obtain ⟨f_view_at, fd_view_at, G_view_at, m_view_at, k_view_at, b_view_at⟩ := c5
  refine ⟨f, fd, F.ok sc_next_letters (fun vs H Q E h => ?_) (fun cdv A outer s H vs Q E hr h => ?_), m_, F.kp, b_⟩
  · obtain ⟨r, m, n, rfl, _⟩ := h
    rfl
  · obtain ⟨r, m, n, rfl, hm, n1, n4, hin, hlen, q⟩ := h
    have l1 := isMask_len hm
    have l2 := open_len m
    refine ⟨_, (pss_cons (ps_expr (pe_call G_check_lettered (hr.mono (by decide)) (by rfl) m_check_lettered k_check_lettered b_check_lettered .nil pass0 (pa_cons (pv 0) (pa_cons (pv 1) (pa_cons (pv 2) pa_nil)))))
      (pss_cons (ps_if (pt_not (pt_val (pe_call G_tells (hr.mono (by decide)) (by rfl) m_tells k_tells b_tells .nil pass0 (pa_cons (pv 0) (pa_cons (pv 1) pa_nil))))) (pss_one (ps_ret pe_str)) pss_nil)
      (pss_cons (ps_set (i := 3) sc_next_letters.nd rfl (Or.inl rfl) (pe_slice sl_str (pe_glob (v := .str (PySem.Str.ofString "abcd")) (by rfl) T.g_LETTERS.choose_spec ⟨_, rfl⟩) po_none (po_some (pv 2))))
      (pss_cons (ps_set (i := 4) sc_next_letters.nd rfl (Or.inr rfl) (pe_call G_views (hr.mono (by decide)) (by rfl) m_views k_views b_views .nil pass0 (pa_cons (pv 0) (pa_cons (pv 1) pa_nil))))
      (pss_cons (ps_if (pt_not (pt_truth (pv 4) (by intro _; rfl))) (pss_one (ps_ret (pv 3))) pss_nil)
      (pss_cons (ps_set (i := 5) sc_next_letters.nd rfl (Or.inr rfl) (pe_call G_seen (hr.mono (by decide)) (by rfl) m_seen k_seen b_seen .nil pass0 (pa_cons (pv 1) pa_nil)))
      (pss_cons (ps_set (i := 6) sc_next_letters.nd rfl (Or.inr rfl) (pe_callB call_len (by rfl) T.m_len (by decide +kernel) (pa_cons (pv 4) pa_nil)))
      (pss_one (ps_ret (pe_join pe_str (pe_lc (own := [("sign", 7)]) (g := gName 7) (by rfl) sc_next_letters.nd (pi_str (pv 3)) (blkOk_by (own := [("sign", 7)]) (N := n_next_letters) (sc := (defScope s_next_letters)) (by decide +kernel)) (fun _ _ _ _ _ => pg_name (i := 7) sc_next_letters.nd rfl (Or.inl rfl)) (fun _ _ _ _ _ => pts_one (pt_cmpR (op_notIn_seqK K rfl) (pe_call G_view_at (hr.mono (by decide)) (by rfl) m_view_at k_view_at b_view_at .nil pass0 (pa_cons (pe_op op_add_str (pv 0) (pv 7)) (pa_cons (pv 5) (pa_cons (pv 6) pa_nil)))) (pv 4) (by rfl))) (fun _ _ _ _ _ => (pv 7))))))))))))), ?_⟩
    refine q_drop (v := .non) (ev_call (ea_cons (ev_var rfl) (ea_cons (ev_var rfl) (ea_cons (ev_var rfl) ea_nil))) fun G e Q q E => ⟨r, m, n, rfl, hm, n1, n4, hin, hlen, q⟩) fun H1 e1 => ?_
    have hrow := hin.row n4 hlen
    refine q_when (b := !decide (Told m r)) (et_not (et_B (ev_call (ea_cons (ev_var rfl) (ea_cons (ev_var rfl) ea_nil)) fun G e Q q E => ⟨txt r, m, rfl, hrow, hm, by rw [views_told]; exact q⟩))) (fun hb H2 e2 => ?_) (fun hb H2 e2 => ?_)
    · have ht : ¬ Told m r := by simpa using hb
      have e0 : nextL m n r = [] := List.filter_eq_nil_iff.mpr fun c _ h => ht (told_back (of_decide_eq_true h))
      refine s_ret ev_c fun H3 e3 => ?_
      have z := q H3 ((e1.trans e2).trans e3)
      rw [e0, ← nil_txt] at z
      exact z
    have ht : Told m r := by simpa using hb
    refine q_asg (v := .str (sgn n)) (ev_slS (z := PySem.Str.ofString "abcd") ev_c eo_none (eo_some (i := (n : Int)) (ev_var rfl)) (by decide +kernel)) fun H3 e3 => ?_
    refine q_asgL (xs := (viewsM (txt r) m).map V.str) (el_call (ea_cons (ev_var rfl) (ea_cons (ev_var rfl) ea_nil)) fun G e Q q E => ⟨txt r, m, rfl, hrow, hm, q⟩) fun D H4 nD e4 hD => ?_
    have hvl : (viewsM (txt r) m).length = r.length + 1 - m.length := by rw [viewsM_len, txt_len]
    have e14 := ((e1.trans e2).trans e3).trans e4
    refine q_when (b := !(!((viewsM (txt r) m).map V.str).isEmpty)) (et_not ?_) (fun hb H5 e5 => ?_) (fun hb H5 e5 => ?_)
    · exact et_lst (ev_var rfl) (sq_of hD)
    · have hv0 : (viewsM (txt r) m).length = 0 := by
        cases hv : viewsM (txt r) m with
        | nil => rfl
        | cons a b => rw [hv] at hb; cases hb
      have e0 : nextL m n r = (sgn n).cps.toList := List.filter_eq_self.mpr fun c _ => decide_eq_true (told_few (by rw [List.length_append]; show r.length + 1 ≤ _; omega))
      refine s_ret (ev_var rfl) fun H6 e6 => ?_
      have z := q H6 ((e14.trans e5).trans e6)
      rw [e0, show txt (sgn n).cps.toList = sgn n from str_ext (txt_l _)] at z
      exact z
    · have hv0 : (viewsM (txt r) m).length ≠ 0 := fun z => by
        rw [List.eq_nil_of_length_eq_zero z] at hb
        cases hb
      refine q_asgL (xs := natsV (openM m)) (el_call (ea_cons (ev_var rfl) ea_nil) (fun G e Q q E => ⟨m, rfl, hm, q⟩)) fun a H6 na e6 ha => ?_
      refine q_asg (v := .int ((r.length + 1 - m.length : Nat) : Int)) (ev_is (ev_cb (ea_cons (ev_var rfl) ea_nil) (rc_lenL (sq_of (e6 _ _ (e5 _ _ hD))))) (by rw [List.length_map, hvl])) fun H7 e7 => ?_
      have hD7 := e7 _ _ (e6 _ _ (e5 _ _ hD))
      refine s_ret (v := .str (txt (nextL m n r))) (ev_join nil_l (l := nextL m n r) (el_is (el_lcS (z := sgn n) (fun i => decide (Told m (r ++ [(sgn n).cps.toList.getD i 0]))) (fun i => V.str ⟨#[(sgn n).cps.toList.getD i 0]⟩) (ev_var rfl) (by rw [sgn_len n4]; omega) (fun _ => rfl) (fun i G e hi => ?_) (fun i G e hi _ => ev_var rfl)) ?_) ?_) fun H8 e8 => q H8 ((((e14.trans e5).trans e6).trans e7).trans e8)
      · have hv : viewM (txt r ++ ⟨#[(sgn n).cps.toList.getD i 0]⟩) (openM m) (r.length + 1 - m.length) = txt (vw (openM m) (r ++ [(sgn n).cps.toList.getD i 0]) (r.length + 1 - m.length)) := by
          rw [txt_snoc]
          unfold viewM vw
          rw [txt_l]
        refine et_is (et_test (ev_op (ev_call (ea_cons (ev_op (ev_var rfl) (ev_var rfl) (rv_addS (y := ⟨#[(sgn n).cps.toList.getD i 0]⟩) (by rw [txt_len]; show r.length + 1 ≤ _; omega))) (ea_cons (ev_var rfl) (ea_cons (ev_var rfl) ea_nil))) fun G2 e2 Q q E => ⟨_, a, openM m, r.length + 1 - m.length, rfl, sq_of ((e.trans e2) _ _ (e7 _ _ ha)), fun p hp => ?_, by omega, ?_, q⟩) (ev_var rfl) (rv_niL (sq_of (e _ _ hD7)) rfl (flat_strs _)))) ?_
        · have := open_lt hp
          rw [txt_snoc, txt_len, List.length_append]
          show r.length + 1 - m.length + p < r.length + 1
          omega
        · rw [txt_snoc, txt_len, List.length_append]
          show r.length + 1 ≤ _
          omega
        · rw [inV_strs, hv, views_vws]
          have z := told_in (c := (sgn n).cps.toList.getD i 0) ht (show m.length ≤ r.length + 1 by omega)
          rw [← decide_not]
          refine decide_eq_decide.mpr ?_
          rw [z]
          refine not_congr ⟨fun hx => ?_, fun hx => List.mem_map.mpr ⟨_, hx, rfl⟩⟩
          obtain ⟨y, hy, ey⟩ := List.mem_map.mp hx
          rw [← txt_inj ey]
          exact hy
      · rw [← len_l, given_filter (sgn n).cps.toList 0 (fun c => decide (Told m (r ++ [c]))) fun c => V.str ⟨#[c]⟩]
        rfl
      · unfold nextL
        refine Nat.le_trans (List.length_filter_le _ _) ?_
        rw [len_l, sgn_len n4]
        omega
theorem ok_farC (e : Ent K mg "farthest" s_farthest p_farthest) (T : Top K mg CM CV CG fG CK fK a_SMALL_WIDTH a_SMALL_SEEN) (c1 : Cal P w K mg base CX0 4 "check_small" p_check_small spSmall) (c2 : Cal P w K mg base CX0 4 "check_row_in" p_check_row_in spRowIn) (c3 : Cal P w K mg base CX0 6 "tells" p_tells spTells)
    (c4 : CalD P w K mg base CX0 8 "farthest_rows" p_farthest_rows spFar 1) : Cal P w K mg base CX0 9 "farthest" p_farthest spFarthest0 := by
  obtain ⟨f, fd, F, m_, b_⟩ := e
  obtain ⟨f_check_small, fd_check_small, G_check_small, m_check_small, k_check_small, b_check_small⟩ := c1
  obtain ⟨f_check_row_in, fd_check_row_in, G_check_row_in, m_check_row_in, k_check_row_in, b_check_row_in⟩ := c2
  obtain ⟨f_tells, fd_tells, G_tells, m_tells, k_tells, b_tells⟩ := c3
  obtain ⟨f_farthest_rows, fd_farthest_rows, ds_farthest_rows, G_farthest_rows, m_farthest_rows, k_farthest_rows, b_farthest_rows, vd_farthest_rows, bd_farthest_rows⟩ := c4
  refine ⟨f, fd, F.ok sc_farthest (fun vs H Q E h => ?_) (fun cdv A outer s H vs Q E hr h => ?_), m_, F.kp, b_⟩
  · obtain ⟨r, m, n, rfl, _⟩ := h
    rfl
  · obtain ⟨r, m, n, rfl, hsm, hin, hlen, q3, q4⟩ := h
    have hm := hsm.1
    have n1 := hsm.2.1
    have n4 := hsm.2.2.1
    have l1 := isMask_len hm
    refine ⟨_, (pss_cons (ps_expr (pe_call G_check_small (hr.mono (by decide)) (by rfl) m_check_small k_check_small b_check_small .nil pass0 (pa_cons (pv 1) (pa_cons (pv 2) pa_nil))))
      (pss_cons (ps_expr (pe_call G_check_row_in (hr.mono (by decide)) (by rfl) m_check_row_in k_check_row_in b_check_row_in .nil pass0 (pa_cons (pv 0) (pa_cons (pv 2) pa_nil))))
      (pss_cons (ps_if (pt_not (pt_val (pe_call G_tells (hr.mono (by decide)) (by rfl) m_tells k_tells b_tells .nil pass0 (pa_cons (pv 0) (pa_cons (pv 1) pa_nil))))) (pss_one (ps_ret pe_non)) pss_nil)
      (pss_one (ps_ret (pe_callB call_len_str (by rfl) T.m_len (by decide +kernel) (pa_cons (pe_ix ix_list (pe_call G_farthest_rows (hr.mono (by decide)) (by rfl) m_farthest_rows k_farthest_rows bd_farthest_rows vd_farthest_rows pass0 (pa_cons (pv 0) (pa_cons (pv 1) (pa_cons (pv 2) pa_nil)))) pe_int (fun _ _ => rfl)) pa_nil))))))), ?_⟩
    refine q_drop (v := .non) (ev_call (ea_cons (ev_var rfl) (ea_cons (ev_var rfl) ea_nil)) fun G e Q q E => ⟨m, n, rfl, hsm, q⟩) fun H1 e1 => ?_
    have hrow := hin.row n4 hlen
    refine q_drop (v := .non) (ev_call (ea_cons (ev_var rfl) (ea_cons (ev_var rfl) ea_nil)) fun G e Q q E => ⟨r, n, rfl, hin, hlen, n1, n4, q⟩) fun H2 e2 => ?_
    refine q_when (b := !decide (Told m r)) (et_not (et_B (ev_call (ea_cons (ev_var rfl) (ea_cons (ev_var rfl) ea_nil)) fun G e Q q E => ⟨txt r, m, rfl, hrow, hm, by rw [views_told]; exact q⟩))) (fun hb H3 e3 => ?_) (fun hb H3 e3 => ?_)
    · exact s_ret ev_c fun H4 e4 => q3 (by simpa using hb) H4 (((e1.trans e2).trans e3).trans e4)
    have ht : Told m r := by simpa using hb
    have h0 : RowOk 1 m n r := ⟨hin, ap_one.mpr ht⟩
    refine ⟨_, rfl, _, rfl, _, rfl, r, m, n, 1, rfl, hsm, Nat.le_refl _, h0, fun k hk p H4 np e4 hp => ?_⟩
    cases el : groM 1 m n r k with
    | nil => exact absurd el hk.1
    | cons u t =>
      obtain ⟨hul, _, _⟩ := gro_each h0.1 h0.2 (show u ∈ gro 1 (sgn n).cps.toList (openM m) m.length r k by rw [show gro 1 (sgn n).cps.toList (openM m) m.length r k = u :: t from el]; exact List.mem_cons_self)
      have hkk := topM_leF hsm (Nat.le_refl _) h0 hk.1
      have htop := hsm.top
      rw [el] at hp
      refine ⟨p, _, 0, .str (txt u), rfl, rfl, sq_of hp, (atI_nat (j := 0) rfl : atI (tS (u :: t)) ((0 : Nat) : Int) = _), txt u, rfl, by rw [txt_len, sizeLine_eq]; omega, ?_⟩
      rw [txt_len, hul]
      exact q4 k ht hk H4 (((e1.trans e2).trans e3).trans e4)
end
end K24
namespace K24
open PySem PySem.Spec PyProof.Rows L2 Evl Qt
def rv (l r : List Nat) (i : Nat) : List Nat := l.map fun p => r.getD ((i + p) % r.length) 0
def turnR (r : List Nat) (s : Nat) : List Nat := r.drop s ++ r.take s
def turns (r : List Nat) : List (List Nat) := (List.range r.length).map (turnR r)
def leastB (r : List Nat) : Bool := decide (r = minL (turns r))
def rt (m : Str) (r : List Nat) : Bool := decide (ringM (txt r) m).Nodup
theorem nodup_range {α : Type} {n : Nat} {f : Nat → α} : ((List.range n).map f).Nodup ↔ ∀ i j, i < n → j < n → f i = f j → i = j := by
  unfold List.Nodup
  rw [List.pairwise_map, List.pairwise_iff_getElem]
  constructor
  · intro h i j hi hj e
    rcases Nat.lt_trichotomy i j with q | q | q
    · have := h i j (by rw [List.length_range]; exact hi) (by rw [List.length_range]; exact hj) q
      rw [List.getElem_range, List.getElem_range] at this
      exact absurd e this
    · exact q
    · have := h j i (by rw [List.length_range]; exact hj) (by rw [List.length_range]; exact hi) q
      rw [List.getElem_range, List.getElem_range] at this
      exact absurd e.symm this
  · intro h i j hi hj hij
    rw [List.length_range] at hi hj
    rw [List.getElem_range, List.getElem_range]
    intro e
    have := h i j hi hj e
    omega
theorem rt_iff {m : Str} {r : List Nat} : rt m r = true ↔ ∀ i j, i < r.length → j < r.length → rv (openM m) r i = rv (openM m) r j → i = j := by
  unfold rt
  rw [decide_eq_true_eq]
  have e : ringM (txt r) m = (List.range r.length).map fun i => txt (rv (openM m) r i) := by
    unfold ringM
    rw [txt_len]
    refine List.map_congr_left fun i _ => ?_
    unfold ringV rv
    rw [txt_l, txt_len]
  rw [e, nodup_range]
  exact forall_congr' fun i => forall_congr' fun j => forall_congr' fun _ => forall_congr' fun _ => ⟨fun h e => h (by rw [e]), fun h e => h (txt_inj e)⟩
/-- what is told round is told along -/
theorem rt_told {m : Str} {r : List Nat} (hw : 1 ≤ m.length) (h : rt m r = true) : (vws (openM m) m.length r).Nodup := by
  rw [rt_iff] at h
  unfold vws
  rw [nodup_range]
  intro i j hi hj e
  have key : ∀ k, k < r.length + 1 - m.length → vw (openM m) r k = rv (openM m) r k := fun k hk => by
    unfold vw rv
    refine List.map_congr_left fun p hp => ?_
    have := open_lt hp
    rw [Nat.mod_eq_of_lt (by omega)]
  rw [key i hi, key j hj] at e
  exact h i j (by omega) (by omega) e
theorem flat_filter {α β : Type} (q : α → Bool) (g : α → List β) (h : ∀ a, q a = false → g a = []) : ∀ l : List α, (l.filter q).flatMap g = l.flatMap g
  | [] => rfl
  | a :: l => by
    cases hq : q a with
    | true => rw [List.filter_cons_of_pos hq, List.flatMap_cons, List.flatMap_cons, flat_filter q g h l]
    | false => rw [List.filter_cons_of_neg (by rw [hq]; exact Bool.false_ne_true), List.flatMap_cons, h a hq, List.nil_append, flat_filter q g h l]
theorem filter_flat {α β : Type} (p : β → Bool) (g : α → List β) : ∀ l : List α, (l.flatMap g).filter p = l.flatMap fun a => (g a).filter p
  | [] => rfl
  | a :: l => by rw [List.flatMap_cons, List.flatMap_cons, List.filter_append, filter_flat p g l]
theorem told_backR {m : Str} {r : List Nat} {c : Nat} (h : (vws (openM m) m.length (r ++ [c])).Nodup) : (vws (openM m) m.length r).Nodup := by
  rw [vws_snoc (openM_lt m)] at h
  exact (List.nodup_append.mp h).1
theorem lev_words {m : Str} (hw : 1 ≤ m.length) (sg : List Nat) : ∀ k, lev sg (openM m) m.length k = (wordsL sg k).filter fun u => decide (vws (openM m) m.length u).Nodup
  | 0 => by
    show [[]] = List.filter _ [[]]
    rw [List.filter_cons_of_pos (by rw [vws_nil hw]; rfl)]
    rfl
  | k + 1 => by
    have e : wordsL sg (k + 1) = (wordsL sg k).flatMap fun w => sg.map fun c => w ++ [c] := rfl
    rw [lev_succ, lev_words hw sg k, e, filter_flat]
    have f := flat_filter (fun u => decide (vws (openM m) m.length u).Nodup) (stp 1 sg (openM m) m.length) (fun a ha => by
      rw [stp_one, List.map_eq_nil_iff, List.filter_eq_nil_iff]
      intro c _ h
      have := told_backR (of_decide_eq_true h)
      rw [decide_eq_true this] at ha
      cases ha) (wordsL sg k)
    rw [f]
    refine congrArg (fun g => List.flatMap g (wordsL sg k)) (funext fun a => ?_)
    rw [stp_one, List.filter_map]
    rfl
/-- the rings of one length in their order: of the rows that are told, or of all rows -/
def ringsL (m : Str) (n k : Nat) : List (List Nat) := (wordsL (sgn n).cps.toList k).filter (rt m)
theorem rings_lev {m : Str} (hw : 1 ≤ m.length) (n k : Nat) : (levM m n k).filter (rt m) = ringsL m n k := by
  unfold levM ringsL
  rw [lev_words hw, List.filter_filter]
  refine List.filter_congr fun u _ => ?_
  cases h : rt m u with
  | true => rw [decide_eq_true (rt_told hw h)]; rfl
  | false => rfl
theorem filter_first {p : List Nat → Bool} : ∀ {l : List (List Nat)} {j : Nat}, j < l.length → (∀ k, k < j → p (l.getD k []) = false) → p (l.getD j []) = true → ∃ t, l.filter p = l.getD j [] :: t
  | [], _, h, _, _ => by cases h
  | a :: l, 0, _, _, hp => ⟨_, List.filter_cons_of_pos hp⟩
  | a :: l, j + 1, h, hn, hp => by
    have h0 : p a = false := hn 0 (Nat.succ_pos _)
    obtain ⟨t, e⟩ := filter_first (l := l) (j := j) (by simpa using h) (fun k hk => hn (k + 1) (by omega)) hp
    exact ⟨t, by rw [List.filter_cons_of_neg (by rw [h0]; exact Bool.false_ne_true)]; exact e⟩
theorem filter_none {p : List Nat → Bool} {l : List (List Nat)} (h : ∀ k, k < l.length → p (l.getD k []) = false) : l.filter p = [] := by
  rw [List.filter_eq_nil_iff]
  intro a ha
  obtain ⟨i, hi, rfl⟩ := List.getElem_of_mem ha
  have := h i hi
  rw [List.getD_eq_getElem?_getD, List.getElem?_eq_getElem hi] at this
  rw [show p l[i] = false from this]
  exact Bool.false_ne_true
/-- the first ring of the greatest length of at most k letters -/
def lring (m : Str) (n : Nat) : Nat → List Nat
  | 0 => [97]
  | 1 => [97]
  | k + 2 => match ringsL m n (k + 2) with
    | r :: _ => r
    | [] => lring m n (k + 1)
theorem lring_some {m : Str} {n k : Nat} {r : List Nat} {t : List (List Nat)} (h2 : 2 ≤ k) (h : ringsL m n k = r :: t) : lring m n k = r := by
  obtain ⟨j, rfl⟩ : ∃ j, k = j + 2 := ⟨k - 2, by omega⟩
  unfold lring
  rw [h]
theorem lring_none {m : Str} {n k : Nat} (h2 : 2 ≤ k) (h : ringsL m n k = []) : lring m n k = lring m n (k - 1) := by
  obtain ⟨j, rfl⟩ : ∃ j, k = j + 2 := ⟨k - 2, by omega⟩
  conv => lhs; unfold lring
  rw [h]
  rfl
def spCViews : Sp := fun vs H Q _ => ∃ (m : Str) (n : Nat), vs = [.str m, .int (n : Int)] ∧ SmallM m n ∧ RetV (.int ((n ^ (openM m).length : Nat) : Int)) H Q
def spLeastR : Sp := fun vs H Q _ => ∃ r : List Nat, vs = [.str (txt r)] ∧ 1 ≤ r.length ∧ r.length ≤ 60 ∧ (∀ c ∈ r, c < 256) ∧ RetV (.bl (leastB r)) H Q
def spLRing : Sp := fun vs H Q _ => ∃ (m : Str) (n : Nat), vs = [.str m, .int (n : Int)] ∧ SmallM m n ∧ RetV (.str (txt (lring m n (n ^ (openM m).length)))) H Q
def fullL (m : Str) (n k : Nat) : List (List Nat) := (wordsL (sgn n).cps.toList k).filter fun u => leastB u && rt m u
def spFRings : Sp := fun vs H Q _ => ∃ (m : Str) (n : Nat), vs = [.str m, .int (n : Int)] ∧ SmallM m n ∧ RetL (tS (fullL m n (n ^ (openM m).length))) H Q
theorem full_lev {m : Str} (hw : 1 ≤ m.length) (n k : Nat) : (levM m n k).filter (fun u => leastB u && rt m u) = fullL m n k := by
  unfold fullL
  rw [← List.filter_filter, rings_lev hw]
  unfold ringsL
  rw [List.filter_filter]
theorem lev_low {m : Str} {n k : Nat} (h : SmallM m n) {r : List Nat} (hr : r ∈ levM m n k) : r.length = k ∧ (∀ c ∈ r, c ∈ (sgn n).cps.toList) ∧ ∀ c ∈ r, c < 256 := by
  obtain ⟨a, b, _⟩ := lev_each (isMask_len h.1).1 hr
  refine ⟨a, b, fun c hc => ?_⟩
  have := sgn_in h.2.2.1 (b c hc)
  simp only [List.mem_cons, List.not_mem_nil, or_false] at this
  omega
theorem row_abcd {n : Nat} {r : List Nat} (h4 : n ≤ 4) (h : ∀ c ∈ r, c ∈ (sgn n).cps.toList) (hl : r.length ≤ 60) : isRow (txt r) = true := isRow_of (by
  rw [txt_l]
  exact fun c hc => sgn_in h4 (h c hc)) (by rw [txt_len]; exact hl)
theorem turn_txt {r : List Nat} {s : Nat} (h : s ≤ r.length) : cutS (txt r) (some (s : Int)) none ++ cutS (txt r) none (some (s : Int)) = txt (turnR r s) := by
  rw [cut_txt, cut_from_txt h]
  apply str_ext
  rw [str_app, txt_l, txt_l, txt_l]
  rfl
theorem least_V {r : List Nat} : decide (V.str (txt r) = V.str (txt (minL (turns r)))) = leastB r := by
  unfold leastB
  refine decide_eq_decide.mpr ⟨fun h => ?_, fun h => by rw [← h]⟩
  injection h with h
  exact txt_inj h
theorem turns_ne {r : List Nat} (h : 1 ≤ r.length) : turns r ≠ [] := fun z => by
  have := congrArg List.length z
  unfold turns at this
  rw [List.length_map, List.length_range, List.length_nil] at this
  omega
theorem turns_low {r : List Nat} (h : ∀ c ∈ r, c < 256) : ∀ u ∈ turns r, lowS (txt u) := fun u hu => by
  obtain ⟨s, _, rfl⟩ := List.mem_map.mp hu
  intro c hc
  rw [txt_l] at hc
  unfold turnR at hc
  rcases List.mem_append.mp hc with q | q
  · exact h c (List.mem_of_mem_drop q)
  · exact h c (List.mem_of_mem_take q)
/-- row == min([row[i:] + row[:i] for i in range(..)]) -/
theorem ev_least {K : PySem.W.Frag} {σ : L2.St} {H : Hp} {a j : Nat} {vs : List Nat} {tr : TA} {r : List Nat} (h0 : σ[a]? = some (some (.str (txt r)))) (hr : EvA tr σ H [.int (r.length : Int)]) (h1 : 1 ≤ r.length) (h60 : r.length ≤ 60) (hlow : ∀ c ∈ r, c < 256)
    (hw : ∀ x, wipe ((wipe σ vs).set j (some x)) vs = wipe σ vs) (ha : ∀ x, ((wipe σ vs).set j (some x))[a]? = some (some (.str (txt r)))) (hj : ∀ x, ((wipe σ vs).set j (some x))[j]? = some (some x)) :
    Ev (tOp rEq (tVar a) (tCB (rMinG K) (tCons (tLc (iRng1 tr) (gName j) tYes (tOp (fun x y H Q => ∃ i j, x = .str i ∧ y = .str j ∧ i.length + j.length ≤ sizeLine ∧ Q (.str (i ++ j)) H) (tSl rSlS (tVar a) (tPart (tVar j)) tNoPart) (tSl rSlS (tVar a) tNoPart (tPart (tVar j)))) vs) tNil))) σ H (.bl (leastB r)) := by
  refine ev_is (ev_op (ev_var h0) (ev_minS (l := turns r) (turns_ne h1) (turns_low hlow) (el_is (el_lcRn (n := (r.length : Int)) (fun _ => true) (fun i => V.str (txt (turnR r i))) hr (by omega) hw (fun i G e hi => et_yes) (fun i G e hi _ => ?_)) ?_)) (rv_eq rfl)) (by rw [least_V])
  · have hi' : i < r.length := by omega
    refine ev_is (ev_op (ev_slS (ev_var (ha _)) (eo_some (i := (i : Int)) (ev_var (hj _))) eo_none (by rw [txt_len]; omega)) (ev_slS (ev_var (ha _)) eo_none (eo_some (i := (i : Int)) (ev_var (hj _))) (by rw [txt_len]; omega)) (rv_addS ?_)) (by rw [turn_txt (by omega)])
    rw [cut_txt, cut_from_txt (by omega), txt_len, txt_len, List.length_drop, List.length_take]
    omega
  · rw [given_all, Int.toNat_natCast]
    unfold turns
    rw [List.map_map]
    rfl
section
variable {P : Program} {w : World} {K : PySem.W.Frag} {mg : Str → Option Value} {base : Heap} {CM CV CG fG CK fK a_SMALL_WIDTH a_SMALL_SEEN : Addr}
theorem ok_cviews (e : Ent K mg "count_views" s_count_views p_count_views) (T : Top K mg CM CV CG fG CK fK a_SMALL_WIDTH a_SMALL_SEEN) (c1 : Cal P w K mg base CX0 1 "words" p_words spWords) : Cal P w K mg base CX0 2 "count_views" p_count_views spCViews := by
  obtain ⟨f, fd, F, m_, b_⟩ := e
  obtain ⟨f_words, fd_words, G_words, m_words, k_words, b_words⟩ := c1
  refine ⟨f, fd, F.ok sc_count_views (fun vs H Q E h => ?_) (fun cdv A outer s H vs Q E hr h => ?_), m_, F.kp, b_⟩
  · obtain ⟨m, n, rfl, _⟩ := h
    rfl
  · obtain ⟨m, n, rfl, hsm, q⟩ := h
    have l1 := isMask_len hsm.1
    have l2 := open_len m
    have h1 := hsm.2.1
    have h4 := hsm.2.2.1
    have hp : n ^ (openM m).length ≤ 1100 := Nat.le_trans (Nat.pow_le_pow_right h1 l2) hsm.words
    refine ⟨_, (pss_one (ps_ret (pe_callB call_len (by rfl) T.m_len (by decide +kernel) (pa_cons (pe_call G_words (hr.mono (by decide)) (by rfl) m_words k_words b_words .nil pass0 (pa_cons (pe_slice sl_str (pe_glob (v := .str (PySem.Str.ofString "abcd")) (by rfl) T.g_LETTERS.choose_spec ⟨_, rfl⟩) po_none (po_some (pv 1))) (pa_cons (pe_m1 PySem.F.slot_str_count PySem.F.type_str_count mt_count (pv 0) pe_str) pa_nil))) pa_nil)))), ?_⟩
    refine s_ret (ev_is (ev_lenL (K := K) (xs := tS (wordsL (sgn n).cps.toList (openM m).length)) (el_call (vs := [.str (sgn n), .int ((openM m).length : Int)]) (ea_cons (ev_slS (z := PySem.Str.ofString "abcd") ev_c eo_none (eo_some (i := (n : Int)) (ev_var rfl)) (by decide +kernel)) (ea_cons (ev_is (ev_count (z := m) (c := 120) (ev_var rfl) (x_eq ▸ ev_c)) (by rw [count_range, len_l]; rfl)) ea_nil)) fun G e Q q E => ⟨sgn n, (openM m).length, rfl, by rw [sgn_len h4]; exact h1, by rw [sgn_len h4]; exact h4, by omega, by rw [sgn_len h4]; exact hp, q⟩)) ?_) q
    rw [tS_len, words_len, len_l, sgn_len h4]
theorem ok_leastR (e : Ent K mg "is_least" s_is_least p_is_least) (T : Top K mg CM CV CG fG CK fK a_SMALL_WIDTH a_SMALL_SEEN) : Cal P w K mg base CX0 1 "is_least" p_is_least spLeastR := by
  obtain ⟨f, fd, F, m_, b_⟩ := e
  refine ⟨f, fd, F.ok sc_is_least (fun vs H Q E h => ?_) (fun cdv A outer s H vs Q E hr h => ?_), m_, F.kp, b_⟩
  · obtain ⟨r, rfl, _⟩ := h
    rfl
  · obtain ⟨r, rfl, h1, h60, hlow, q⟩ := h
    refine ⟨_, (pss_one (ps_ret (pe_cmpR op_eq (pv 0) (pe_callB (cr_minG rfl hr.units) (by rfl) T.m_min (by decide +kernel) (pa_cons (pe_lc (own := [("start", 1)]) (g := gName 1) (by rfl) sc_is_least.nd (pi_range1 (by rfl) T.m_range (pa_cons (pe_callB call_len_str (by rfl) T.m_len (by decide +kernel) (pa_cons (pv 0) pa_nil)) pa_nil)) (blkOk_by (own := [("start", 1)]) (N := n_is_least) (sc := (defScope s_is_least)) (by decide +kernel)) (fun _ _ _ _ _ => pg_name (i := 1) sc_is_least.nd rfl (Or.inl rfl)) (fun _ _ _ _ _ => pts_nil) (fun _ _ _ _ _ => (pe_op op_add_str (pe_slice sl_str (pv 0) (po_some (pv 1)) po_none) (pe_slice sl_str (pv 0) po_none (po_some (pv 1)))))) pa_nil)) (nomark _)))), ?_⟩
    exact s_ret (ev_least (r := r) rfl (ea_cons (ev_is (ev_cb (ea_cons (ev_var rfl) ea_nil) (rc_lenS (z := txt r) (by rw [txt_len]; omega))) (by rw [txt_len])) ea_nil) h1 h60 hlow (fun _ => rfl) (fun _ => rfl) (fun _ => rfl)) q
theorem ok_frings (e : Ent K mg "full_rings" s_full_rings p_full_rings) (T : Top K mg CM CV CG fG CK fK a_SMALL_WIDTH a_SMALL_SEEN) (c1 : Cal P w K mg base CX0 4 "check_small" p_check_small spSmall) (c2 : Cal P w K mg base CX0 8 "told_rows" p_told_rows spTold) (c3 : Cal P w K mg base CX0 2 "count_views" p_count_views spCViews) (c4 : Cal P w K mg base CX0 1 "is_least" p_is_least spLeastR) (c5 : Cal P w K mg base CX0 6 "ring_tells" p_ring_tells spRingTells) : Cal P w K mg base CX0 9 "full_rings" p_full_rings spFRings := by
  obtain ⟨f, fd, F, m_, b_⟩ := e
  obtain ⟨f_check_small, fd_check_small, G_check_small, m_check_small, k_check_small, b_check_small⟩ := c1
  obtain ⟨f_told_rows, fd_told_rows, G_told_rows, m_told_rows, k_told_rows, b_told_rows⟩ := c2
  obtain ⟨f_count_views, fd_count_views, G_count_views, m_count_views, k_count_views, b_count_views⟩ := c3
  obtain ⟨f_is_least, fd_is_least, G_is_least, m_is_least, k_is_least, b_is_least⟩ := c4
  obtain ⟨f_ring_tells, fd_ring_tells, G_ring_tells, m_ring_tells, k_ring_tells, b_ring_tells⟩ := c5
  refine ⟨f, fd, F.ok sc_full_rings (fun vs H Q E h => ?_) (fun cdv A outer s H vs Q E hr h => ?_), m_, F.kp, b_⟩
  · obtain ⟨m, n, rfl, _⟩ := h
    rfl
  · obtain ⟨m, n, rfl, hsm, q⟩ := h
    have l1 := isMask_len hsm.1
    have ht := hsm.top
    have h1 := hsm.2.1
    have h4 := hsm.2.2.1
    have hV : 1 ≤ n ^ (openM m).length := Nat.pos_of_ne_zero (fun z => by
      have := Nat.pow_pos (n := (openM m).length) h1
      omega)
    obtain ⟨V0, hV0⟩ : ∃ V0, n ^ (openM m).length = V0 := ⟨_, rfl⟩
    refine ⟨_, (pss_cons (ps_expr (pe_call G_check_small (hr.mono (by decide)) (by rfl) m_check_small k_check_small b_check_small .nil pass0 (pa_cons (pv 0) (pa_cons (pv 1) pa_nil))))
      (pss_cons (ps_set (i := 2) sc_full_rings.nd rfl (Or.inl rfl) (pe_call G_told_rows (hr.mono (by decide)) (by rfl) m_told_rows k_told_rows b_told_rows .nil pass0 (pa_cons (pv 0) (pa_cons (pv 1) (pa_cons (pe_call G_count_views (hr.mono (by decide)) (by rfl) m_count_views k_count_views b_count_views .nil pass0 (pa_cons (pv 0) (pa_cons (pv 1) pa_nil))) pa_nil)))))
      (pss_one (ps_ret (pe_lc (own := [("row", 3)]) (g := gName 3) (by rfl) sc_full_rings.nd (pi_list (pv 2)) (blkOk_by (own := [("row", 3)]) (N := n_full_rings) (sc := (defScope s_full_rings)) (by decide +kernel)) (fun _ _ _ _ _ => pg_name (i := 3) sc_full_rings.nd rfl (Or.inl rfl)) (fun _ _ _ _ _ => pts_one (PW.pt (pw_and (pt_val (pe_call G_is_least (hr.mono (by decide)) (by rfl) m_is_least k_is_least b_is_least .nil pass0 (pa_cons (pv 3) pa_nil))) (pw_and1 (pt_val (pe_call G_ring_tells (hr.mono (by decide)) (by rfl) m_ring_tells k_ring_tells b_ring_tells .nil pass0 (pa_cons (pv 3) (pa_cons (pv 0) pa_nil)))))))) (fun _ _ _ _ _ => (pv 3))))))), ?_⟩
    refine q_drop (v := .non) (ev_call (ea_cons (ev_var rfl) (ea_cons (ev_var rfl) ea_nil)) fun G e Q q E => ⟨m, n, rfl, hsm, q⟩) fun H1 e1 => ?_
    rw [hV0] at hV ht q
    refine q_asgL (xs := tS (levM m n V0)) (el_call (vs := [.str m, .int (n : Int), .int (V0 : Int)]) (ea_cons (ev_var rfl) (ea_cons (ev_var rfl) (ea_cons (ev_call (ea_cons (ev_var rfl) (ea_cons (ev_var rfl) ea_nil)) fun G e Q q E => ⟨m, n, rfl, hsm, by rw [hV0]; exact q⟩) ea_nil))) fun G e Q q E => ⟨m, n, V0, rfl, hsm, by omega, q⟩) fun p H2 np e2 hp => ?_
    have hlen := levM_small hsm V0
    refine s_retL (el_is (el_lcLB (xs := tS (levM m n V0)) (fun j => leastB ((levM m n V0).getD j []) && rt m ((levM m n V0).getD j [])) (fun j => V.str (txt ((levM m n V0).getD j []))) (ev_var rfl) (sq_of hp) (by rw [tS_len, sizeLine_eq]; omega) (fun _ => rfl) (fun j y G e hy => ?_) (fun j y G e hy _ => ?_)) ?_) fun p2 H3 np2 e3 hp2 => q p2 H3 (fresh_back (e1.trans e2) np2) ((e1.trans e2).trans e3) hp2
    · obtain ⟨hj, rfl⟩ := tS_get hy
      obtain ⟨b1, b2, b3⟩ := lev_low hsm (mem_getDL (d := []) hj)
      refine et_and (et_B (ev_call (ea_cons (ev_var rfl) ea_nil) fun G2 e2 Q q E => ⟨_, rfl, by omega, by omega, b3, q⟩)) fun _ => et_B (ev_call (vs := [.str (txt ((levM m n V0).getD j [])), .str m]) (ea_cons (ev_var rfl) (ea_cons (ev_var rfl) ea_nil)) fun G2 e2 Q q E => ⟨_, m, rfl, row_abcd h4 b2 (by omega), by rw [txt_len]; omega, hsm.1, q⟩)
    · obtain ⟨hj, rfl⟩ := tS_get hy
      exact ev_var rfl
    · rw [tS_len, given_filter (levM m n V0) [] (fun u => leastB u && rt m u) (fun u => V.str (txt u)), full_lev l1.1]
      rfl
theorem ok_lring (e : Ent K mg "longest_ring" s_longest_ring p_longest_ring) (T : Top K mg CM CV CG fG CK fK a_SMALL_WIDTH a_SMALL_SEEN) (c1 : Cal P w K mg base CX0 4 "check_small" p_check_small spSmall) (c2 : Cal P w K mg base CX0 2 "count_views" p_count_views spCViews) (c3 : Cal P w K mg base CX0 8 "told_rows" p_told_rows spTold) (c5 : Cal P w K mg base CX0 6 "ring_tells" p_ring_tells spRingTells) : Cal P w K mg base CX0 9 "longest_ring" p_longest_ring spLRing := by
  obtain ⟨f, fd, F, m_, b_⟩ := e
  obtain ⟨f_check_small, fd_check_small, G_check_small, m_check_small, k_check_small, b_check_small⟩ := c1
  obtain ⟨f_count_views, fd_count_views, G_count_views, m_count_views, k_count_views, b_count_views⟩ := c2
  obtain ⟨f_told_rows, fd_told_rows, G_told_rows, m_told_rows, k_told_rows, b_told_rows⟩ := c3
  obtain ⟨f_ring_tells, fd_ring_tells, G_ring_tells, m_ring_tells, k_ring_tells, b_ring_tells⟩ := c5
  refine ⟨f, fd, F.ok sc_longest_ring (fun vs H Q E h => ?_) (fun cdv A outer s H vs Q E hr h => ?_), m_, F.kp, b_⟩
  · obtain ⟨m, n, rfl, _⟩ := h
    rfl
  · obtain ⟨m, n, rfl, hsm, q⟩ := h
    have l1 := isMask_len hsm.1
    have ht := hsm.top
    have h1 := hsm.2.1
    have h4 := hsm.2.2.1
    have hV : 1 ≤ n ^ (openM m).length := Nat.pow_pos h1
    obtain ⟨V0, hV0⟩ : ∃ V0, n ^ (openM m).length = V0 := ⟨_, rfl⟩
    refine ⟨_, (pss_cons (ps_expr (pe_call G_check_small (hr.mono (by decide)) (by rfl) m_check_small k_check_small b_check_small .nil pass0 (pa_cons (pv 0) (pa_cons (pv 1) pa_nil))))
      (pss_cons (ps_for PassesOwn.never rfl (pi_range3 (by rfl) T.m_range (pa_cons (pe_call G_count_views (hr.mono (by decide)) (by rfl) m_count_views k_count_views b_count_views .nil pass0 (pa_cons (pv 0) (pa_cons (pv 1) pa_nil))) (pa_cons pe_int (pa_cons (pe_un un_neg pe_int) pa_nil)))) (pg_name (i := 2) sc_longest_ring.nd rfl (Or.inl rfl)) (pss_one (ps_for PassesOwn.never rfl (pi_list (pe_call G_told_rows (hr.mono (by decide)) (by rfl) m_told_rows k_told_rows b_told_rows .nil pass0 (pa_cons (pv 0) (pa_cons (pv 1) (pa_cons (pv 2) pa_nil))))) (pg_name (i := 3) sc_longest_ring.nd rfl (Or.inl rfl)) (pss_one (ps_if (pt_val (pe_call G_ring_tells (hr.mono (by decide)) (by rfl) m_ring_tells k_ring_tells b_ring_tells .nil pass0 (pa_cons (pv 3) (pa_cons (pv 0) pa_nil)))) (pss_one (ps_ret (pv 3))) pss_nil)))))
      (pss_one (ps_ret (pe_ix ix_str (pe_glob (v := .str (PySem.Str.ofString "abcd")) (by rfl) T.g_LETTERS.choose_spec ⟨_, rfl⟩) pe_int (fun _ _ => rfl)))))), ?_⟩
    refine q_drop (v := .non) (ev_call (ea_cons (ev_var rfl) (ea_cons (ev_var rfl) ea_nil)) fun G e Q q E => ⟨m, n, rfl, hsm, q⟩) fun H1 e1 => ?_
    rw [hV0] at hV ht q
    refine q_forDn (hi := (V0 : Int)) (lo := 1) (j := 2) (ea_cons (ev_call (ea_cons (ev_var rfl) (ea_cons (ev_var rfl) ea_nil)) fun G e Q q E => ⟨m, n, rfl, hsm, by rw [hV0]; exact q⟩) (ea_cons ev_c (ea_cons (ev_un ev_c ru_neg) ea_nil))) (by omega)
      (fun i σ H' => Ex H H' ∧ lring m n V0 = lring m n (V0 - i) ∧ ∃ x2 x3, σ = [some (.str m), some (.int (n : Int)), x2, x3]) (fun H2 e2 => ⟨e1.trans e2, rfl, _, _, rfl⟩) (fun i σ' H2 hi hp => ?_) (fun σ' H2 hp => ?_)
    · obtain ⟨e2, hl, x2, x3, rfl⟩ := hp
      have hk : 2 ≤ V0 - i := by omega
      have hc : ((V0 : Int) - (i : Int)) = ((V0 - i : Nat) : Int) := by omega
      rw [hc]
      obtain ⟨k, hkk⟩ : ∃ k, V0 - i = k := ⟨_, rfl⟩
      rw [hkk] at hk hl ⊢
      refine s_forNL (K := K) (D := { nx := _, rt := _, bk := _, ct := _ }) (xs := tS (levM m n k)) (el_call (vs := [.str m, .int (n : Int), .int (k : Int)]) (ea_cons (ev_var rfl) (ea_cons (ev_var rfl) (ea_cons (ev_var rfl) ea_nil))) fun G e Q q E => ⟨m, n, k, rfl, hsm, by omega, q⟩)
        (fun p j σ'' H'' => Ex H H'' ∧ H'' p = some (.lst (tS (levM m n k))) ∧ (∀ d, d < j → rt m ((levM m n k).getD d []) = false) ∧ ∃ x3, σ'' = [some (.str m), some (.int (n : Int)), some (.int (k : Int)), x3])
        (fun p H3 np e3 hp => ⟨e2.trans e3, hp, fun d hd => by omega, _, rfl⟩) (fun p j σ'' H'' _ pp => sq_of pp.2.1) (fun p j y σ'' H'' hy pp => ?_) (fun p σ'' H'' pp => ?_)
      · obtain ⟨e3, hp, hno, x3, rfl⟩ := pp
        obtain ⟨hj, rfl⟩ := tS_get hy
        obtain ⟨b1, b2, b3⟩ := lev_low hsm (mem_getDL (d := []) hj)
        refine s_when (b := rt m ((levM m n k).getD j [])) (et_B (ev_call (vs := [.str (txt ((levM m n k).getD j [])), .str m]) (ea_cons (ev_var rfl) (ea_cons (ev_var rfl) ea_nil)) fun G2 e2 Q q E => ⟨_, m, rfl, row_abcd h4 b2 (by omega), by rw [txt_len]; omega, hsm.1, q⟩)) (fun hb H4 e4 => ?_) (fun hb H4 e4 => ?_)
        · obtain ⟨t, ht'⟩ := filter_first hj hno hb
          rw [rings_lev l1.1] at ht'
          refine s_ret (ev_var rfl) fun H5 e5 => ?_
          have := q H5 ((e3.trans e4).trans e5)
          rw [hl, lring_some hk ht'] at this
          exact this
        · refine ⟨e3.trans e4, e4 _ _ hp, fun d hd => ?_, _, rfl⟩
          rcases Nat.lt_or_ge d j with z | z
          · exact hno d z
          · obtain rfl : d = j := by omega
            exact hb
      · obtain ⟨e3, hp, hno, x3, rfl⟩ := pp
        rw [tS_len] at hno
        have z := filter_none hno
        rw [rings_lev l1.1] at z
        refine ⟨e3, ?_, _, _, rfl⟩
        rw [hl, lring_none hk z, ← hkk]
        rfl
    · obtain ⟨e2, hl, x2, x3, rfl⟩ := hp
      have e1' : V0 - ((V0 : Int) - 1).toNat = 1 := by omega
      rw [e1'] at hl
      refine s_ret (ev_op ev_c ev_c (rv_ixS (c := 97) (by decide +kernel) (by decide +kernel))) fun H3 e3 => ?_
      have := q H3 (e2.trans e3)
      rw [hl] at this
      exact this
end
end K24
namespace K24
open PySem PySem.Spec PyProof.Rows L2 Evl Qt
theorem top_ex {sg l : List Nat} {w : Nat} : ∀ d, lev sg l w d = [] → ∃ k, IsTop sg l w k
  | 0, h => by cases h
  | d + 1, h => by
    by_cases e : lev sg l w d = []
    · exact top_ex d e
    · exact ⟨d, e, h⟩
open Classical in
noncomputable def tp (m : Str) (n : Nat) : Nat := if h : ∃ k, TopM m n k then Classical.choose h else 0
theorem tp_top {m : Str} {n : Nat} (h : SmallM m n) : TopM m n (tp m n) := by
  have l1 := isMask_len h.1
  have e : ∃ k, TopM m n k := top_ex _ (lev_end (sg := (sgn n).cps.toList) (l := openM m) (w := m.length) l1.1 (openM_lt m) (Nat.le_refl _))
  unfold tp
  rw [dif_pos e]
  exact Classical.choose_spec e
def hasM (k : Nat) (l : List Nat) : Bool := decide (l.countP (fun d => decide (d = 120)) = k)
def lotsM (wd k : Nat) : List (List Nat) := (masksTo wd).filter (hasM k)
theorem open_count (l : List Nat) : (openM (txt l)).length = l.countP fun d => decide (d = 120) := by
  rw [count_range]
  unfold openM
  rw [txt_l, txt_len]
theorem lots_small {wd k n : Nat} {l : List Nat} (h1 : 1 ≤ n) (h4 : n ≤ 4) (hw : wd ≤ SW n) (hk : k ≤ SS n) (h12 : wd ≤ 12) (hl : l ∈ masksTo wd) (hc : hasM k l = true) : SmallM (txt l) n := by
  obtain ⟨a, b⟩ := masksTo_each h12 hl
  have c : l.countP (fun d => decide (d = 120)) = k := of_decide_eq_true hc
  exact ⟨a, h1, h4, by rw [txt_len]; omega, by rw [open_count, c]; exact hk⟩
theorem masks_nodup (w : Nat) : (masksL w).Nodup := by
  unfold masksL
  split
  · simp
  · unfold List.Nodup
    rw [List.pairwise_map]
    exact (words_nodup (by decide) _).imp fun {a b} hne e => hne (by simpa using e)
theorem masksTo_nodup {w : Nat} (h : w ≤ 12) : (masksTo w).Nodup := by
  unfold masksTo
  unfold List.Nodup
  rw [List.pairwise_flatMap]
  refine ⟨fun i _ => masks_nodup _, ?_⟩
  rw [List.pairwise_iff_getElem]
  intro i j hi hj hij x hx y hy e
  rw [List.length_range] at hi hj
  rw [List.getElem_range] at hx hy
  have a := (masks_each (w := 1 + i) (by omega) (by omega) hx).2
  have b := (masks_each (w := 1 + j) (by omega) (by omega) hy).2
  rw [e] at a
  omega
theorem masksTo_diff {w : Nat} (h : w ≤ 12) : ∀ a b, a < b → b < (masksTo w).length → ksT ((masksTo w).getD a []) ≠ ksT ((masksTo w).getD b []) := fun a b hab hb e => by
  have z := masksTo_nodup h
  unfold List.Nodup at z
  rw [List.pairwise_iff_getElem] at z
  have e2 := ks_inj e
  rw [List.getD_eq_getElem?_getD, List.getD_eq_getElem?_getD, List.getElem?_eq_getElem (by omega), List.getElem?_eq_getElem hb] at e2
  exact z a b (by omega) hb hab e2
/-- the greatest of some numbers, 0 for none -/
def mx (l : List Nat) : Nat := l.foldl max 0
theorem mx_go : ∀ (l : List Nat) (a : Nat), a ≤ l.foldl max a ∧ (∀ x ∈ l, x ≤ l.foldl max a) ∧ (l.foldl max a = a ∨ l.foldl max a ∈ l)
  | [], a => ⟨Nat.le_refl _, (fun x h => by cases h), Or.inl rfl⟩
  | y :: l, a => by
    obtain ⟨h1, h2, h3⟩ := mx_go l (max a y)
    rw [List.foldl_cons]
    refine ⟨by omega, fun x hx => ?_, ?_⟩
    · rcases List.mem_cons.mp hx with rfl | hx
      · omega
      · exact h2 x hx
    · rcases h3 with h3 | h3
      · by_cases hm : a ≤ y
        · refine .inr ?_
          rw [h3, Nat.max_eq_right hm]
          exact List.mem_cons_self
        · refine .inl ?_
          rw [h3, Nat.max_eq_left (by omega)]
      · exact .inr (List.mem_cons_of_mem _ h3)
theorem mx_is {l : List Nat} {m : Int} (h : m ∈ l.map fun (x : Nat) => (x : Int)) (hb : ∀ y, y ∈ (l.map fun (x : Nat) => (x : Int)) → y ≤ m) : m = (mx l : Int) := by
  obtain ⟨x, hx, rfl⟩ := List.mem_map.mp h
  obtain ⟨h1, h2, h3⟩ := mx_go l 0
  unfold mx
  have a := h2 x hx
  rcases h3 with h3 | h3
  · rw [h3] at a ⊢
    omega
  · have b := hb _ (List.mem_map.mpr ⟨_, h3, rfl⟩)
    omega
noncomputable def bestM (wd k n : Nat) : Nat := mx ((lotsM wd k).map fun l => tp (txt l) n)
noncomputable def bestL (wd k n : Nat) : List (List Nat) := (lotsM wd k).filter fun l => decide (tp (txt l) n = bestM wd k n)
def spBest : Sp := fun vs H Q _ => ∃ (k wd n : Nat), vs = [.int (k : Int), .int (wd : Int), .int (n : Int)] ∧ 1 ≤ k ∧ 1 ≤ wd ∧ 1 ≤ n ∧ n ≤ 4 ∧ wd ≤ SW n ∧ k ≤ SS n ∧
  ∀ p L H', Ex H H' → H' L = some (.lst (tS (bestL wd k n))) → H' p = some (.tup [.int (bestM wd k n : Int), .ref L]) → Q (.ref p) H'
theorem filt_map {α β : Type} (l : List α) (d : α) (p : α → Bool) (g : α → β) : ((List.range l.length).filter fun i => p (l.getD i d)).map (fun i => g (l.getD i d)) = (l.filter p).map g := by
  have e : l = (List.range l.length).map fun i => l.getD i d := by
    apply List.ext_getElem
    · simp
    · intro i h1 h2
      simp [List.getD_eq_getElem?_getD, List.getElem?_eq_getElem h1]
  conv => rhs; rw [e, List.filter_map, List.map_map]
  rfl
theorem valV_at {κ : Type} [DecidableEq κ] : ∀ {kvs : List (κ × V)} {i : Nat} {k : κ} {v : V}, (kvs.map (·.1)).Nodup → kvs[i]? = some (k, v) → valV kvs k = some v
  | p :: r, 0, k, v, _, e => by
    obtain rfl := Option.some.inj e
    exact valV_pos rfl
  | p :: r, i + 1, k, v, h, e => by
    rw [List.map_cons, List.nodup_cons] at h
    have hm : (k, v) ∈ r := List.mem_of_getElem? (i := i) e
    have hne : ¬ p.1 = k := fun z => h.1 (List.mem_map.mpr ⟨(k, v), hm, z.symm⟩)
    rw [valV_neg hne]
    exact valV_at (i := i) h.2 e
def spNum0 : Sp := fun vs H Q _ => ∃ (v lo hi : Int), vs = [.int v, .int lo, .int hi] ∧ lo ≤ v ∧ v ≤ hi ∧ RetV .non H Q
noncomputable def kvM (wd k n : Nat) : List (Key × V) := (lotsM wd k).map fun l => (ksT l, V.int ((tp (txt l) n : Nat) : Int))
theorem lots_nodup {wd k : Nat} (h : wd ≤ 12) : (lotsM wd k).Nodup := List.Pairwise.filter _ (masksTo_nodup h)
theorem kv_nodup {wd k n : Nat} (h : wd ≤ 12) : ((kvM wd k n).map (·.1)).Nodup := by
  unfold kvM
  rw [List.map_map]
  unfold List.Nodup
  rw [List.pairwise_map]
  exact (lots_nodup h).imp fun {a b} hne e => hne (ks_inj e)
section
variable {P : Program} {w : World} {K : PySem.W.Frag} {mg : Str → Option Value} {base : Heap} {CM CV CG fG CK fK a_SMALL_WIDTH a_SMALL_SEEN : Addr}
theorem ok_best (e : Ent K mg "best_masks" s_best_masks p_best_masks) (T : Top K mg CM CV CG fG CK fK a_SMALL_WIDTH a_SMALL_SEEN) (c1 : Cal P w K mg base CX0 5 "check_number" p_check_number spNum0) (c2 : Cal P w K mg base CX0 2 "check_letters" p_check_letters spLetters)
    (c3 : Cal P w K mg base CX0 1 "check_great" p_check_great spGreat) (c4 : Cal P w K mg base CX0 3 "masks_to" p_masks_to spMasksTo) (c5 : Cal P w K mg base CX0 10 "longest" p_longest spLongest) : Cal P w K mg base CX0 11 "best_masks" p_best_masks spBest := by
  obtain ⟨f, fd, F, m_, b_⟩ := e
  obtain ⟨f_check_number, fd_check_number, G_check_number, m_check_number, k_check_number, b_check_number⟩ := c1
  obtain ⟨f_check_letters, fd_check_letters, G_check_letters, m_check_letters, k_check_letters, b_check_letters⟩ := c2
  obtain ⟨f_check_great, fd_check_great, G_check_great, m_check_great, k_check_great, b_check_great⟩ := c3
  obtain ⟨f_masks_to, fd_masks_to, G_masks_to, m_masks_to, k_masks_to, b_masks_to⟩ := c4
  obtain ⟨f_longest, fd_longest, G_longest, m_longest, k_longest, b_longest⟩ := c5
  refine ⟨f, fd, F.ok sc_best_masks (fun vs H Q E h => ?_) (fun cdv A outer s H vs Q E hr h => ?_), m_, F.kp, b_⟩
  · obtain ⟨k, wd, n, rfl, _⟩ := h
    rfl
  · obtain ⟨k, wd, n, rfl, k1, w1, h1, h4, hw, hk, q⟩ := h
    have sw : SW n ≤ 12 := by unfold SW; split <;> (try split) <;> (try split) <;> omega
    have ss : SS n ≤ 12 := by unfold SS; split <;> (try split) <;> (try split) <;> omega
    have w12 : wd ≤ 12 := Nat.le_trans hw sw
    have k12 : k ≤ 12 := Nat.le_trans hk ss
    refine ⟨_, (pss_cons (ps_expr (pe_call G_check_number (hr.mono (by decide)) (by rfl) m_check_number k_check_number b_check_number .nil pass0 (pa_cons (pv 0) (pa_cons pe_int (pa_cons (pe_glob (v := .int 12) (by rfl) T.g_WIDEST.choose_spec ⟨_, rfl⟩) pa_nil)))))
      (pss_cons (ps_expr (pe_call G_check_number (hr.mono (by decide)) (by rfl) m_check_number k_check_number b_check_number .nil pass0 (pa_cons (pv 1) (pa_cons pe_int (pa_cons (pe_glob (v := .int 12) (by rfl) T.g_WIDEST.choose_spec ⟨_, rfl⟩) pa_nil)))))
      (pss_cons (ps_expr (pe_call G_check_letters (hr.mono (by decide)) (by rfl) m_check_letters k_check_letters b_check_letters .nil pass0 (pa_cons (pv 2) pa_nil)))
      (pss_cons (ps_expr (pe_call G_check_great (hr.mono (by decide)) (by rfl) m_check_great k_check_great b_check_great .nil pass0 (pa_cons (pv 1) (pa_cons (pv 0) (pa_cons (pv 2) pa_nil)))))
      (pss_cons (ps_set (i := 3) sc_best_masks.nd rfl (Or.inr rfl) (pe_dc (own := [("mask", 5)]) (g := (gName 5)) (by rfl) sc_best_masks.nd (pi_list (pe_call G_masks_to (hr.mono (by decide)) (by rfl) m_masks_to k_masks_to b_masks_to .nil pass0 (pa_cons (pv 1) pa_nil))) (blkOk_by (own := [("mask", 5)]) (N := n_best_masks) (sc := (defScope s_best_masks)) (by decide +kernel)) (fun _ _ _ _ _ => pg_name (i := 5) sc_best_masks.nd rfl (Or.inl rfl)) (fun _ _ _ _ _ => pts_one (pt_cmpR op_eq (pe_m1 PySem.F.slot_str_count PySem.F.type_str_count mt_count (pv 5) pe_str) (pv 0) (nomark _))) (fun _ _ _ _ _ => (pv 5)) (fun _ _ _ _ _ => (pe_call G_longest (hr.mono (by decide)) (by rfl) m_longest k_longest b_longest .nil pass0 (pa_cons (pv 5) (pa_cons (pv 2) pa_nil))))))
      (pss_cons (ps_set (i := 4) sc_best_masks.nd rfl (Or.inr rfl) (pe_callBK (cr_maxVD rfl) (by rfl) T.m_max (by decide +kernel) (pa_cons (pe_valuesV (pv 3)) pa_nil) (pk_cons pe_int pk_nil)))
      (pss_one (ps_ret (pe_tup (pa_cons (pv 4) (pa_cons (pe_lock (pe_lc (own := [("mask", 5)]) (g := gName 5) (by rfl) sc_best_masks.nd (pi_keys (pv 3)) (blkOk_by (own := [("mask", 5)]) (N := n_best_masks) (sc := (defScope s_best_masks)) (by decide +kernel)) (fun _ _ _ _ _ => pg_name (i := 5) sc_best_masks.nd rfl (Or.inl rfl)) (fun _ _ _ _ _ => pts_one (pt_cmpR op_eq (pe_dget (Nat.lt_of_le_of_lt (Nat.add_le_add_left (by decide) _) hr.units) (pv 3) (pv 5) (fun _ _ => rfl)) (pv 4) (nomark _))) (fun _ _ _ _ _ => (pv 5)))) pa_nil))))))))))), ?_⟩
    refine ⟨_, rfl, (k : Int), 1, 12, rfl, by omega, by omega, fun H1 e1 => ⟨_, rfl, (wd : Int), 1, 12, rfl, by omega, by omega, fun H2 e2 => ⟨_, rfl, n, rfl, h1, h4, fun H3 e3 => ⟨_, rfl, _, rfl, _, rfl, wd, k, n, rfl, h1, h4, hw, hk, fun H4 e4 => ?_⟩⟩⟩⟩
    have e04 := ((e1.trans e2).trans e3).trans e4
    dsimp only [tSeq]
    have mz := masksTo_len w12
    refine el_dcL (K := K) (xs := tS (masksTo wd)) (fun i => hasM k ((masksTo wd).getD i [])) (fun i => ksT ((masksTo wd).getD i [])) (fun i => V.int ((tp (txt ((masksTo wd).getD i [])) n : Nat) : Int)) (el_call (ea_cons (ev_var rfl) ea_nil) fun G e Q q E => ⟨wd, rfl, w12, q⟩) (by rw [tS_len]; omega) (fun _ => rfl)
      (fun a b hab hb => masksTo_diff w12 a b hab (by rw [tS_len] at hb; exact hb)) (fun i x G e hx => ?_) (fun i x G e hx hf => ?_) (fun i x G e hx hf => ?_) _ (Ex.refl _) _ fun D H5 nD e5 hD => ?_
    · obtain ⟨hi, rfl⟩ := tS_get hx
      refine et_is (et_test (ev_op (ev_count (z := txt ((masksTo wd).getD i [])) (c := 120) (ev_var rfl) (x_eq ▸ ev_c)) (ev_var rfl) (rv_eq rfl))) ?_
      rw [txt_l]
      refine decide_eq_decide.mpr ⟨fun h => ?_, fun h => by rw [h]⟩
      injection h with h
      omega
    · obtain ⟨hi, rfl⟩ := tS_get hx
      exact ev_var rfl
    · obtain ⟨hi, rfl⟩ := tS_get hx
      have hsm := lots_small h1 h4 hw hk w12 (mem_getDL (d := []) hi) hf
      exact ev_call (ea_cons (ev_var rfl) (ea_cons (ev_var rfl) ea_nil)) fun G2 e2 Q q E => ⟨_, n, rfl, hsm, fun k' hk' => by rw [top_one hk' (tp_top hsm)]; exact q⟩
    · rw [tS_len, filt_map (masksTo wd) [] (hasM k) fun l => (ksT l, V.int ((tp (txt l) n : Nat) : Int))] at hD
      have hD : H5 D = some (.dK (kvM wd k n)) := hD
      dsimp only [gName, tSeq]
      have nD0 : H D = none := fresh_back e04 nD
      have fin : ∀ (H6 : Hp), Ex H5 H6 → tRet (tTup (tCons (tVar 4) (tCons (tLockE (tLc (iKeys (tVar 3)) (gName 5) (tTest (tOp rEq (tDGet (tVar 3) (tVar 5)) (tVar 4))) (tVar 5) [5])) tNil))) { nx := fun x H' => Q V.non H', rt := Q }
          [some (.int (k : Int)), some (.int (wd : Int)), some (.int (n : Int)), some (.ref D), some (.int ((bestM wd k n : Nat) : Int)), none] H6 := by
        intro H6 e6
        have hD6 := e6 _ _ hD
        refine ⟨_, rfl, D, .dK (kvM wd k n), hD6, trivial, fun od => ?_⟩
        obtain ⟨HF, hHF⟩ : ∃ HF, upd H6 D (.frz od (.dK (kvM wd k n))) = HF := ⟨_, rfl⟩
        have hz : HF D = some (.frz od (.dK (kvM wd k n))) := by rw [← hHF]; exact upd_same
        rw [hHF]
        refine ⟨_, rfl, D, od, rfl, .inl ⟨kvM wd k n, hz, fun L nL => ?_⟩⟩
        have LD : L ≠ D := fun z => by rw [z, hz] at nL; cases nL
        refine lc_it (te := tVar 5) (tt := tTest (tOp rEq (tDGet (tVar 3) (tVar 5)) (tVar 4))) (g := gName 5) (vs := [5]) (walk_keys (d := D) (o := od) (kvs := kvM wd k n)) (fun i H' => Ex HF H' ∧ H' L = some (.lst (tS (((lotsM wd k).take i).filter fun l => decide (tp (txt l) n = bestM wd k n))))) ⟨Ex.new nL, upd_same⟩ (fun i H' _ p => p.1 _ _ hz) (fun i x G H' hi p y => ?_) (fun H' p => ?_)
        · obtain ⟨rfl, kk, v, hkv, rfl⟩ := y
          obtain ⟨p1, p2⟩ := p
          have hkv0 := hkv
          unfold kvM at hkv
          rw [List.getElem?_map] at hkv
          cases el : (lotsM wd k)[i]? with
          | none => rw [el] at hkv; cases hkv
          | some l =>
            rw [el] at hkv
            have ee := Option.some.inj hkv
            have e1' : ksT l = kk := congrArg Prod.fst ee
            have e2' : V.int ((tp (txt l) n : Nat) : Int) = v := congrArg Prod.snd ee
            subst e1' e2'
            have tk : (lotsM wd k).take (i + 1) = (lotsM wd k).take i ++ [l] := by
              rw [List.take_succ, el]
              rfl
            have ll : (((lotsM wd k).take i).filter fun l => decide (tp (txt l) n = bestM wd k n)).length < sizeLine := by
              have z1 := List.length_filter_le (fun l => decide (tp (txt l) n = bestM wd k n)) ((lotsM wd k).take i)
              have z2 : ((lotsM wd k).take i).length ≤ (lotsM wd k).length := by rw [List.length_take]; omega
              have z3 : (lotsM wd k).length ≤ (masksTo wd).length := List.length_filter_le _ _
              rw [sizeLine_eq]
              omega
            refine ⟨rfl, ?_⟩
            refine ⟨_, rfl, _, rfl, D, _, rfl, .inl ⟨kvM wd k n, ksT l, .inr ⟨od, p1 _ _ hz⟩, rfl, (valV_at (kv_nodup w12) hkv0).symm⟩, _, rfl, rfl, _, rfl, ?_⟩
            by_cases hb : tp (txt l) n = bestM wd k n
            · refine ite2 (fun _ => ?_) (fun z => absurd (decide_eq_true (by rw [hb])) z)
              refine ⟨_, rfl, _, p2, by rw [tS_len]; exact ll, Ex.mut p1 nL, ?_⟩
              rw [upd_same, tk, List.filter_append, List.filter_cons_of_pos (p := fun l => decide (tp (txt l) n = bestM wd k n)) (by exact decide_eq_true hb)]
              unfold tS
              rw [List.map_append]
              rfl
            · refine ite2 (fun z => absurd (of_decide_eq_true z) (fun z => hb (by injection z with z; omega))) (fun _ => ?_)
              refine ⟨p1, ?_⟩
              rw [tk, List.filter_append, List.filter_cons_of_neg (p := fun l => decide (tp (txt l) n = bestM wd k n)) (by simpa using hb), List.filter_nil, List.append_nil]
              exact p2
        · obtain ⟨p1, p2⟩ := p
          have kl : (kvM wd k n).length = (lotsM wd k).length := List.length_map ..
          rw [kl, List.take_length] at p2
          refine ⟨p1 _ _ hz, by show 2 ≤ sizeLine; decide, fun t nt => ?_⟩
          have eF : Ex H HF := by rw [← hHF]; exact Ex.mut ((e04.trans e5).trans e6) nD0
          refine q t L _ ((Ex.mut (eF.trans p1) nD0).trans (Ex.new nt)) ((Ex.new nt) _ _ (by rw [upd_ne LD]; exact p2)) upd_same
      refine ⟨_, rfl, D, _, rfl, hD, fun v nv => ⟨v, D, _, (lotsM wd k).map fun l => ((tp (txt l) n : Nat) : Int), 0, rfl, rfl, upd_same, (Ex.new nv) _ _ hD, ?_, fun h0 => ?_, fun m hm hb => ?_⟩⟩
      · unfold kvM
        rw [List.map_map, List.map_map]
        rfl
      · have z : bestM wd k n = 0 := by
          unfold bestM
          rw [show (lotsM wd k) = [] from List.map_eq_nil_iff.mp h0]
          rfl
        have f := fin _ (Ex.new (o := ValV v D) nv)
        rw [z] at f
        exact f
      · have z : m = ((bestM wd k n : Nat) : Int) := by
          unfold bestM
          exact mx_is (by rw [List.map_map]; exact hm) (by rw [List.map_map]; exact hb)
        rw [z]
        exact fin _ (Ex.new (o := ValV v D) nv)
end
end K24
namespace K24
open PySem PySem.Spec PyProof.Rows L2 Evl Qt
theorem ext_step (sg : List Nat) (l : List (List Nat)) : given2 (fun _ => sg.length) (fun i m => V.str (txt (l.getD i []) ++ (⟨#[sg.getD m 0]⟩ : Str))) l.length = tS (l.flatMap fun w => sg.map fun c => w ++ [c]) := by
  unfold given2 tS
  rw [List.map_flatMap]
  rw [← range_flat_getD l []]
  refine congrArg (fun f => List.flatMap f (List.range l.length)) (funext fun i => ?_)
  rw [List.map_map, ← range_map_getD sg 0]
  refine List.map_congr_left fun m _ => ?_
  show V.str _ = V.str _
  rw [txt_snoc]
/-- the places of b where it is unlike a -/
def difP (a b : List Nat) : Nat := ((List.range b.length).filter fun i => !decide (b.getD i 0 = a.getD i 0)).length
theorem difP_snoc (a b : List Nat) (c : Nat) : difP a b ≤ difP a (b ++ [c]) := by
  unfold difP
  rw [List.length_append, List.length_singleton, List.range_succ, List.filter_append, List.length_append]
  have : (List.range b.length).filter (fun i => !decide (b.getD i 0 = a.getD i 0)) = (List.range b.length).filter (fun i => !decide ((b ++ [c]).getD i 0 = a.getD i 0)) := List.filter_congr fun i hi => by
    rw [getD_app (List.mem_range.mp hi)]
  rw [this]
  exact Nat.le_add_right _ _
def nearMd (m : Str) (r : List Nat) (c : Nat) (u : List Nat) : Bool := decide (difP r u ≤ c) && decide (Told m u)
theorem near_back {m : Str} {r u : List Nat} {c d : Nat} (h : nearMd m r c (u ++ [d]) = true) : nearMd m r c u = true := by
  unfold nearMd at h ⊢
  rw [Bool.and_eq_true, decide_eq_true_eq, decide_eq_true_eq] at h ⊢
  exact ⟨Nat.le_trans (difP_snoc r u d) h.1, told_back h.2⟩
/-- the rows of i letters that are near, in their order -/
def madeL (m : Str) (n : Nat) (r : List Nat) (c i : Nat) : List (List Nat) := (wordsL (sgn n).cps.toList i).filter (nearMd m r c)
theorem made_step (m : Str) (n : Nat) (r : List Nat) (c i : Nat) : ((madeL m n r c i).flatMap fun w => (sgn n).cps.toList.map fun d => w ++ [d]).filter (nearMd m r c) = madeL m n r c (i + 1) := by
  have e : madeL m n r c (i + 1) = ((wordsL (sgn n).cps.toList i).flatMap fun w => (sgn n).cps.toList.map fun d => w ++ [d]).filter (nearMd m r c) := rfl
  rw [e, filter_flat, filter_flat]
  unfold madeL
  refine flat_filter _ _ (fun a ha => ?_) _
  rw [List.filter_eq_nil_iff]
  intro b hb
  obtain ⟨d, _, rfl⟩ := List.mem_map.mp hb
  intro h
  rw [near_back h] at ha
  cases ha
theorem made_len (m : Str) (n : Nat) (r : List Nat) (c i : Nat) (h4 : n ≤ 4) : (madeL m n r c i).length ≤ n ^ i := by
  have := List.length_filter_le (nearMd m r c) (wordsL (sgn n).cps.toList i)
  rw [words_len, len_l, sgn_len h4] at this
  exact this
theorem made_mem {m : Str} {n : Nat} {r : List Nat} {c i : Nat} {u : List Nat} : u ∈ madeL m n r c i ↔ (u.length = i ∧ LetIn n u) ∧ difP r u ≤ c ∧ Told m u := by
  unfold madeL nearMd
  rw [List.mem_filter, Bool.and_eq_true, decide_eq_true_eq, decide_eq_true_eq]
  refine and_congr_left fun _ => ⟨fun h => words_each h, fun h => words_mem _ _ h.1 h.2⟩
def missP (x y : Str) : Nat := ((List.range y.length).filter (missB x y)).length
def spOthersB : Sp := fun vs H Q _ => ∃ x y : Str, vs = [.str x, .str y] ∧ y.length ≤ x.length ∧ x.length ≤ 1000 ∧ RetV (.int (missP x y : Int)) H Q
def spLUnl : Sp := fun vs H Q _ => ∃ a b : List Nat, vs = [.str (txt a), .str (txt b)] ∧ b.length = a.length ∧ a.length ≤ 1000 ∧ RetV (.int (dif a b : Int)) H Q
def spNearMd : Sp := fun vs H Q _ => ∃ (r : List Nat) (m : Str) (n c : Nat), vs = [.str (txt r), .str m, .str (sgn n), .int (c : Int)] ∧ isMask m = true ∧ 1 ≤ n ∧ n ≤ 4 ∧ r.length ≤ 60 ∧ n ^ r.length ≤ 5000 ∧ RetL (tS (madeL m n r c r.length)) H Q
def spMend : Sp := fun vs H Q _ => ∃ (r : List Nat) (m : Str) (n : Nat), vs = [.str (txt r), .str m, .int (n : Int)] ∧ isMask m = true ∧ 1 ≤ n ∧ n ≤ 4 ∧ LetIn n r ∧ r.length ≤ 8 ∧ n ^ r.length ≤ 5000 ∧
  (∀ c u t, c ≤ r.length → madeL m n r c r.length = u :: t → (∀ d, d < c → madeL m n r d r.length = []) → ∀ p H2, H p = none → Ex H H2 → H2 p = some (.tup [.int (c : Int), .str (txt u)]) → Q (.ref p) H2) ∧
  ((∀ c, c ≤ r.length → madeL m n r c r.length = []) → RetV .non H Q)
theorem missP_dif {n : Nat} {a b : List Nat} (h4 : n ≤ 4) (hb : LetIn n b) : missP (txt a) (txt b) = difP a b := by
  unfold missP difP
  rw [txt_len]
  refine congrArg List.length (List.filter_congr fun i hi => ?_)
  unfold missB
  rw [txt_l, txt_l]
  have := hb.abcd h4 (b.getD i 0) (mem_getD (List.mem_range.mp hi))
  simp only [List.mem_cons, List.not_mem_nil, or_false] at this
  rw [decide_eq_false (by omega : ¬ b.getD i 0 = 63), Bool.not_false, Bool.true_and]
theorem el_lcZB {ta : TA} {te : TE} {t : TT} {K : PySem.W.Frag} {σ : L2.St} {H : Hp} {x y : Str} {j k : Nat} {vs : List Nat} (f : Nat → Bool) (v : Nat → V) (h : EvA ta σ H [.str x, .str y]) (hz : x.length ≤ 40000) (hl : y.length ≤ x.length)
    (hw : ∀ a b, wipe (((wipe σ vs).set j (some a)).set k (some b)) vs = wipe σ vs)
    (ht : ∀ (i : Nat) H1, Ex H H1 → i < y.length → EvT t (((wipe σ vs).set j (some (sg x i))).set k (some (sg y i))) H1 (f i))
    (he : ∀ (i : Nat) H1, Ex H H1 → i < y.length → f i = true → Ev te (((wipe σ vs).set j (some (sg x i))).set k (some (sg y i))) H1 (v i)) :
    EvL (tLc (iZipS ta) (gTup K 2 (gCons (gName j) (gCons (gName k) gNil))) t te vs) σ H (given y.length f v) := fun H0 e Q q => h H0 e _ fun H1 e1 => ⟨x, y, rfl, fun Dl hD => by
  have hm : min x.cps.size y.cps.size = y.length := Nat.min_eq_right hl
  refine lc_it walk_zipS (Cw H1 f v Dl) ⟨hD, Ex.new hD, upd_same⟩ (fun _ _ _ _ => trivial) (fun i z H2 H' hi p y' => ?_) (fun H' p => ?_)
  · obtain ⟨T, c, d, rfl, nT, rfl, hc, hd⟩ := y'
    have hi' : i < y.length := by rw [← hm]; exact hi
    obtain ⟨p1, p2, p3⟩ := p
    have nTD : Dl ≠ T := ne_of_none p3 nT
    have p' : Cw H1 f v Dl i (upd H2 T (.tup [.str ⟨#[c]⟩, .str ⟨#[d]⟩])) := ⟨p1, p2.trans (Ex.new nT), by rw [upd_ne nTD]; exact p3⟩
    refine ⟨T, _, rfl, st_of upd_same, rfl, _, _, rfl, _, _, rfl, rfl, ?_⟩
    rw [sg_of hc, sg_of hd] at p' ⊢
    exact ⟨hw _ _, cw_turn p' (by omega) (ht i H1 (e.trans e1) hi') (fun hf => he i H1 (e.trans e1) hi' hf)⟩
  · rw [hm] at p
    exact q Dl H' (fresh_back e1 p.1) (e1.trans p.2.1) p.2.2⟩
section
variable {P : Program} {w : World} {K : PySem.W.Frag} {mg : Str → Option Value} {base : Heap} {CM CV CG fG CK fK a_SMALL_WIDTH a_SMALL_SEEN : Addr}
theorem ok_othersB (e : Ent K mg "others" s_others p_others) (T : Top K mg CM CV CG fG CK fK a_SMALL_WIDTH a_SMALL_SEEN) : Cal P w K mg base CX0 1 "others" p_others spOthersB := by
  obtain ⟨f, fd, F, m_, b_⟩ := e
  refine ⟨f, fd, F.ok sc_others (fun vs H Q E h => ?_) (fun cdv A outer s H vs Q E hr h => ?_), m_, F.kp, b_⟩
  · obtain ⟨x, y, rfl, _⟩ := h
    rfl
  · obtain ⟨x, y, rfl, hl, hx, q⟩ := h
    refine ⟨_, (pss_one (ps_ret (pe_callB call_len (by rfl) T.m_len (by decide +kernel) (pa_cons (pe_lc (own := [("letter", 2), ("sign", 3)]) (g := gTup K 2 (gCons (gName 2) (gCons (gName 3) gNil))) (by rfl) sc_others.nd (pi_zipS (by rfl) T.m_zip (pa_cons (pv 0) (pa_cons (pv 1) pa_nil))) (blkOk_by (own := [("letter", 2), ("sign", 3)]) (N := n_others) (sc := (defScope s_others)) (by decide +kernel)) (fun _ _ _ _ _ => by exact (pg_tup rfl (pgs_cons (by exact pg_name (i := 2) sc_others.nd rfl (Or.inl rfl)) (pgs_cons (by exact pg_name (i := 3) sc_others.nd rfl (Or.inl rfl)) pgs_nil)))) (fun _ _ _ _ _ => pts_one (PW.pt (pw_and (pt_cmpR op_ne (pv 3) (pe_glob (v := .str (PySem.Str.ofString "?")) (by rfl) T.g_UNREAD.choose_spec ⟨_, rfl⟩) (nomark _)) (pw_and1 (pt_cmpR op_ne (pv 3) (pv 2) (nomark _)))))) (fun _ _ _ _ _ => (pv 3))) pa_nil)))), ?_⟩
    refine s_ret (v := .int (missP x y : Int)) (ev_is (ev_lenL (el_lcZB (x := x) (y := y) (missB x y) (fun i => sg y i) (ea_cons (ev_var rfl) (ea_cons (ev_var rfl) ea_nil)) (by omega) hl (fun _ _ => rfl)
      (fun i H1 _ hi => et_and (et_test (ev_op (ev_var rfl) ev_c ?_)) fun _ => et_test (ev_op (ev_var rfl) (ev_var rfl) rv_chrs)) (fun i H1 _ hi _ => ev_var rfl))) ?_) q
    · rw [q_eq]
      exact rv_chrs
    · congr 2
      unfold given missP
      rw [List.length_map]
theorem ok_nearMd (e : Ent K mg "told_near" s_told_near p_told_near) (T : Top K mg CM CV CG fG CK fK a_SMALL_WIDTH a_SMALL_SEEN) (c1 : Cal P w K mg base CX0 1 "others" p_others spOthersB) (c2 : Cal P w K mg base CX0 6 "tells" p_tells spTells) : Cal P w K mg base CX0 7 "told_near" p_told_near spNearMd := by
  obtain ⟨f, fd, F, m_, b_⟩ := e
  obtain ⟨f_others, fd_others, G_others, m_others, k_others, b_others⟩ := c1
  obtain ⟨f_tells, fd_tells, G_tells, m_tells, k_tells, b_tells⟩ := c2
  refine ⟨f, fd, F.ok sc_told_near (fun vs H Q E h => ?_) (fun cdv A outer s H vs Q E hr h => ?_), m_, F.kp, b_⟩
  · obtain ⟨r, m, n, c, rfl, _⟩ := h
    rfl
  · obtain ⟨r, m, n, c, rfl, hm, h1, h4, hl, hz, q⟩ := h
    have l1 := isMask_len hm
    refine ⟨_, (pss_cons (ps_set (i := 4) sc_told_near.nd rfl (Or.inl rfl) (pe_lst (pa_cons pe_str pa_nil)))
      (pss_cons (ps_for PassesOwn.never rfl (pi_str (pv 0)) (pg_name (i := 5) sc_told_near.nd rfl (Or.inl rfl)) (pss_cons (ps_setLc2 (i := 6) (own := [("begun", 7), ("sign", 8)]) (vs1 := [8]) (g := (gName 7)) (g1 := (gName 8)) (by rfl) sc_told_near.nd rfl rfl (sw_true rfl rfl rfl (by decide +kernel)) (pi_list (pv 4)) (blkOk_by (own := [("begun", 7), ("sign", 8)]) (N := n_told_near) (sc := (defScope s_told_near)) (by decide +kernel)) (by decide) (fun _ _ _ _ _ => pg_name (i := 7) sc_told_near.nd rfl (Or.inl rfl)) (fun _ _ _ _ _ => pts_nil) (fun _ _ _ _ _ => by exact (pi_str (pv 2))) (fun _ _ _ _ _ => pg_name (i := 8) sc_told_near.nd rfl (Or.inl rfl)) (fun _ _ _ _ _ => pts_nil) (fun _ _ _ _ _ => (pe_op op_add_str (pv 7) (pv 8))))
      (pss_one (ps_setLc (i := 4) (own := [("begun", 7)]) (g := gName 7) (by rfl) sc_told_near.nd rfl rfl (sw_true rfl rfl rfl (by decide +kernel)) (pi_list (pv 6)) (blkOk_by (own := [("begun", 7)]) (N := n_told_near) (sc := (defScope s_told_near)) (by decide +kernel)) (fun _ _ _ _ _ => pg_name (i := 7) sc_told_near.nd rfl (Or.inl rfl)) (fun _ _ _ _ _ => pts_one (PW.pt (pw_and (pt_cmpR op_le (pe_call G_others (hr.mono (by decide)) (by rfl) m_others k_others b_others .nil pass0 (pa_cons (pv 0) (pa_cons (pv 7) pa_nil))) (pv 3) (nomark _)) (pw_and1 (pt_val (pe_call G_tells (hr.mono (by decide)) (by rfl) m_tells k_tells b_tells .nil pass0 (pa_cons (pv 7) (pa_cons (pv 1) pa_nil)))))))) (fun _ _ _ _ _ => (pv 7))))))
      (pss_one (ps_ret (pv 4))))), ?_⟩
    refine q_asgL (xs := tS (madeL m n r c 0)) (el_is (el_lst (ea_cons ev_c ea_nil) (by simp)) ?_) fun p H1 np e1 hp => ?_
    · have z : Told m [] := by
        show (vws (openM m) m.length []).Nodup
        rw [vws_nil l1.1]
        exact List.nodup_nil
      have : madeL m n r c 0 = [[]] := by
        unfold madeL
        show List.filter (nearMd m r c) [[]] = [[]]
        rw [List.filter_cons_of_pos (by unfold nearMd; rw [decide_eq_true z, decide_eq_true (show difP r [] ≤ c from Nat.zero_le _)]; rfl)]
        rfl
      rw [this, nil_txt]
      rfl
    dsimp only [tSeq]
    refine s_forS (z := txt r) (ev_var rfl) (fun i σ' H' => Ex H H' ∧ ∃ (p : Addr) (x5 x6 x7 x8 : Option V), H p = none ∧ H' p = some (.lst (tS (madeL m n r c i))) ∧ σ' = [some (.str (txt r)), some (.str m), some (.str (sgn n)), some (.int (c : Int)), some (.ref p), x5, x6, x7, x8])
      (fun H2 e2 => ⟨e1.trans e2, p, _, _, _, _, np, e2 _ _ hp, rfl⟩) (fun i σ' H' hi hp' => ?_) (fun σ' H' hp' => ?_)
    · obtain ⟨eH, p, x5, x6, x7, x8, np, hp, rfl⟩ := hp'
      rw [txt_len] at hi
      have hpow : n ^ (i + 1) ≤ 5000 := Nat.le_trans (Nat.pow_le_pow_right h1 (by omega)) hz
      have hpow0 : n ^ i ≤ 5000 := Nat.le_trans (Nat.pow_le_pow_right h1 (by omega)) hz
      have hw := made_len m n r c i h4
      refine q_asgL (xs := tS ((madeL m n r c i).flatMap fun w => (sgn n).cps.toList.map fun d => w ++ [d])) (el_is (el_lc2LS (xs := tS (madeL m n r c i)) (z := sgn n) (fun a m' => V.str (txt ((madeL m n r c i).getD a []) ++ (⟨#[(sgn n).cps.toList.getD m' 0]⟩ : Str))) (ev_var rfl) (sq_of hp) (by rw [tS_len]; omega) (by rw [sgn_len h4]; omega) (fun _ => rfl) (fun _ _ => rfl)
        (fun a y H2 e2 hy => ev_var rfl) (fun a m' y H2 e2 hy hm' => ?_)) ?_) fun p2 H2 np2 e2 hp2 => ?_
      · obtain ⟨ha, rfl⟩ := tS_get hy
        refine ev_op (ev_var rfl) (ev_var rfl) (rv_addS ?_)
        have := (made_mem.mp (mem_getDL (d := []) ha)).1.1
        rw [txt_len, this]
        show i + 1 ≤ _
        omega
      · rw [tS_len, ← len_l (sgn n)]
        exact ext_step _ _
      obtain ⟨L, hL⟩ : ∃ L, ((madeL m n r c i).flatMap fun w => (sgn n).cps.toList.map fun d => w ++ [d]) = L := ⟨_, rfl⟩
      rw [hL] at hp2
      have hLm : L.filter (nearMd m r c) = madeL m n r c (i + 1) := by rw [← hL]; exact made_step m n r c i
      have hLe : ∀ u ∈ L, u.length = i + 1 ∧ LetIn n u := fun u hu => by
        rw [← hL] at hu
        obtain ⟨v, hv, hu⟩ := List.mem_flatMap.mp hu
        obtain ⟨d, hd, rfl⟩ := List.mem_map.mp hu
        have := (made_mem.mp hv).1
        exact ⟨by rw [List.length_append, this.1]; rfl, this.2.snoc hd⟩
      have hLl : L.length ≤ n ^ i * n := by
        rw [← hL]
        refine Nat.le_trans (flat_le _ n (fun x => by rw [List.length_map, len_l, sgn_len h4]; exact Nat.le_refl _) _) (Nat.mul_le_mul_right _ hw)
      rw [Nat.pow_succ] at hpow
      refine s_asgL (xs := tS (madeL m n r c (i + 1))) (el_is (el_lcL (xs := tS L) (fun j => nearMd m r c (L.getD j [])) (fun j => V.str (txt (L.getD j []))) (ev_var rfl) (sq_of hp2) (by rw [tS_len]; omega) (fun _ => rfl) (fun j y G e hy => ?_) (fun j y G e hy _ => ?_)) ?_) fun p3 H3 np3 e3 hp3 => ⟨(eH.trans e2).trans e3, p3, _, _, _, _, fresh_back (eH.trans e2) np3, hp3, rfl⟩
      · obtain ⟨hj, rfl⟩ := tS_get hy
        have hu := hLe _ (mem_getDL (d := []) hj)
        obtain ⟨u, hue⟩ : ∃ u, L.getD j [] = u := ⟨_, rfl⟩
        rw [hue] at hu ⊢
        refine et_and (et_is (et_test (ev_op (ev_call (z := .int (missP (txt r) (txt u) : Int)) (ea_cons (ev_var rfl) (ea_cons (ev_var rfl) ea_nil)) fun G2 e2 Q q E => ⟨txt r, txt u, rfl, by rw [txt_len, txt_len]; omega, by rw [txt_len]; omega, q⟩) (ev_var rfl) rv_I0)) ?_) fun _ => ?_
        · rw [missP_dif h4 hu.2]
          exact decide_eq_decide.mpr Int.ofNat_le
        · refine et_B (ev_call (vs := [.str (txt u), .str m]) (ea_cons (ev_var rfl) (ea_cons (ev_var rfl) ea_nil)) fun G2 e2 Q q E => ⟨txt u, m, rfl, hu.2.row h4 (by omega), hm, by rw [views_told]; exact q⟩)
      · obtain ⟨hj, rfl⟩ := tS_get hy
        exact ev_var rfl
      · rw [tS_len, given_filter L [] (nearMd m r c) (fun u => V.str (txt u)), hLm]
        rfl
    · obtain ⟨eH, p, x5, x6, x7, x8, np, hp, rfl⟩ := hp'
      rw [txt_len] at hp
      exact s_ret (ev_var rfl) fun H2 e2 => q p H2 np (eH.trans e2) (e2 _ _ hp)
theorem ok_mend (e : Ent K mg "mend" s_mend p_mend) (T : Top K mg CM CV CG fG CK fK a_SMALL_WIDTH a_SMALL_SEEN) (c1 : Cal P w K mg base CX0 5 "check_lettered" p_check_lettered spLetteredC) (c2 : Cal P w K mg base CX0 7 "told_near" p_told_near spNearMd) : Cal P w K mg base CX0 8 "mend" p_mend spMend := by
  obtain ⟨f, fd, F, m_, b_⟩ := e
  obtain ⟨f_check_lettered, fd_check_lettered, G_check_lettered, m_check_lettered, k_check_lettered, b_check_lettered⟩ := c1
  obtain ⟨f_told_near, fd_told_near, G_told_near, m_told_near, k_told_near, b_told_near⟩ := c2
  refine ⟨f, fd, F.ok sc_mend (fun vs H Q E h => ?_) (fun cdv A outer s H vs Q E hr h => ?_), m_, F.kp, b_⟩
  · obtain ⟨r, m, n, rfl, _⟩ := h
    rfl
  · obtain ⟨r, m, n, rfl, hm, h1, h4, hin, hl, hz, q1, q2⟩ := h
    refine ⟨_, (pss_cons (ps_expr (pe_call G_check_lettered (hr.mono (by decide)) (by rfl) m_check_lettered k_check_lettered b_check_lettered .nil pass0 (pa_cons (pv 0) (pa_cons (pv 1) (pa_cons (pv 2) pa_nil)))))
      (pss_cons (ps_if (pt_cmpR op_gt (pe_callB call_len_str (by rfl) T.m_len (by decide +kernel) (pa_cons (pv 0) pa_nil)) (pe_glob (v := .int 8) (by rfl) T.g_LONGEST_TO_MEND.choose_spec ⟨_, rfl⟩) (nomark _)) (pss_one ps_never) pss_nil)
      (pss_cons (ps_for PassesOwn.never rfl (pi_range1 (by rfl) T.m_range (pa_cons (pe_op op_add (pe_callB call_len_str (by rfl) T.m_len (by decide +kernel) (pa_cons (pv 0) pa_nil)) pe_int) pa_nil)) (pg_name (i := 3) sc_mend.nd rfl (Or.inl rfl)) (pss_cons (ps_set (i := 4) sc_mend.nd rfl (Or.inl rfl) (pe_call G_told_near (hr.mono (by decide)) (by rfl) m_told_near k_told_near b_told_near .nil pass0 (pa_cons (pv 0) (pa_cons (pv 1) (pa_cons (pe_slice sl_str (pe_glob (v := .str (PySem.Str.ofString "abcd")) (by rfl) T.g_LETTERS.choose_spec ⟨_, rfl⟩) po_none (po_some (pv 2))) (pa_cons (pv 3) pa_nil))))))
      (pss_one (ps_if (pt_truth (pv 4) (by intro _; rfl)) (pss_one (ps_ret (pe_tup (pa_cons (pv 3) (pa_cons (pe_ix ix_list (pv 4) pe_int (fun _ _ => rfl)) pa_nil))))) pss_nil))))
      (pss_one (ps_ret pe_non))))), ?_⟩
    refine q_drop (v := .non) (ev_call (ea_cons (ev_var rfl) (ea_cons (ev_var rfl) (ea_cons (ev_var rfl) ea_nil))) fun G e Q q E => ⟨r, m, n, rfl, hm, h1, h4, hin, by omega, q⟩) fun H1 e1 => ?_
    refine q_when (b := decide ((8 : Int) < (r.length : Int))) (et_test (ev_op (ev_is (ev_cb (ea_cons (ev_var rfl) ea_nil) (rc_lenS (z := txt r) (by rw [txt_len]; omega))) (by rw [txt_len])) ev_c rv_I0)) (fun hb H2 e2 => ?_) (fun _ H2 e2 => ?_)
    · have := of_decide_eq_true hb
      omega
    have e12 := e1.trans e2
    refine q_forR1 (n := ((r.length + 1 : Nat) : Int)) (j := 3) (ea_cons (ev_op (ev_is (ev_cb (ea_cons (ev_var rfl) ea_nil) (rc_lenS (z := txt r) (by rw [txt_len]; omega))) (by rw [txt_len])) ev_c rv_I0) ea_nil) (by omega)
      (fun i σ H' => Ex H H' ∧ (∀ d, d < i → madeL m n r d r.length = []) ∧ ∃ x3 x4, σ = [some (.str (txt r)), some (.str m), some (.int (n : Int)), x3, x4]) (fun H3 e3 => ⟨e12.trans e3, fun d hd => by omega, _, _, rfl⟩) (fun i σ' H3 hi hp => ?_) (fun σ' H3 hp => ?_)
    · obtain ⟨e3, hno, x3, x4, rfl⟩ := hp
      have hi' : i ≤ r.length := by omega
      refine q_asgL (xs := tS (madeL m n r i r.length)) (el_call (vs := [.str (txt r), .str m, .str (sgn n), .int (i : Int)]) (ea_cons (ev_var rfl) (ea_cons (ev_var rfl) (ea_cons (ev_slS (z := PySem.Str.ofString "abcd") ev_c eo_none (eo_some (i := (n : Int)) (ev_var rfl)) (by decide +kernel)) (ea_cons (ev_var rfl) ea_nil)))) fun G e Q q E => ⟨r, m, n, i, rfl, hm, h1, h4, by omega, hz, q⟩) fun p H4 np e4 hp => ?_
      refine s_when (b := !(tS (madeL m n r i r.length)).isEmpty) (et_lst (ev_var rfl) (sq_of hp)) (fun hb H5 e5 => ?_) (fun hb H5 e5 => ?_)
      · cases hM : madeL m n r i r.length with
        | nil => rw [hM] at hb; cases hb
        | cons u t =>
          have hp5 := e5 _ _ hp
          rw [hM] at hp5
          refine s_retU (eu_tup (ea_cons (ev_var rfl) (ea_cons (ev_op (ev_var rfl) ev_c (rv_ixL (v := .str (txt u)) (sq_of hp5) (atI_nat (j := 0) rfl))) ea_nil)) (by simp)) fun p2 H6 np2 e6 hp2 => ?_
          exact q1 i u t hi' hM hno p2 H6 (fresh_back ((e3.trans e4).trans e5) np2) (((e3.trans e4).trans e5).trans e6) hp2
      · have hM : madeL m n r i r.length = [] := by
          cases hM : madeL m n r i r.length with
          | nil => rfl
          | cons u t => rw [hM] at hb; cases hb
        refine ⟨(e3.trans e4).trans e5, fun d hd => ?_, _, _, rfl⟩
        rcases Nat.lt_or_ge d i with z | z
        · exact hno d z
        · obtain rfl : d = i := by omega
          exact hM
    · obtain ⟨e3, hno, x3, x4, rfl⟩ := hp
      rw [Int.toNat_natCast] at hno
      exact s_ret ev_c fun H4 e4 => q2 (fun c hc => hno c (by omega)) H4 (e3.trans e4)
end
end K24
namespace K24
open PySem PySem.Spec PyProof.Rows L2 Evl Qt
def spLLooks (K : PySem.W.Frag) : Sp := fun vs H Q _ => ∃ (r sc : Addr) (ns : List Int) (m : Str) (n : Nat), vs = [.ref r, .str m, .int (n : Int)] ∧ isMask m = true ∧ 1 ≤ n ∧ n ≤ 40 ∧ Qt.Row K r sc ns H ∧
  ∀ (zs : List Str) (p : Addr) (H' : Hp), zs.length = n → (∀ z ∈ zs, isLook m (.str z) = true) → p ≠ r → H' p = some (.lst (zs.map V.str)) → Xr K r H H' → Qt.Row K r sc ns H' → Q (.ref p) H'
theorem look_mem {m z : Str} (h : isLook m (.str z) = true) : ∀ c ∈ z.cps.toList, c ∈ [97, 98, 99, 100, 63] := by
  have h' : (madeOf (.str z) sa && decide (z.length = (openM m).length)) = true := h
  rw [Bool.and_eq_true] at h'
  have h2 : (z.cps.toList.all fun c => decide (c ∈ sa.cps.toList)) = true := h'.1
  rw [show sa.cps.toList = [97, 98, 99, 100, 63] by decide +kernel, List.all_eq_true] at h2
  intro c hc
  exact of_decide_eq_true (h2 c hc)
theorem put_len {l : List Nat} : ∀ {zs : List Str} {k : List Nat} {st : Nat}, (putM l k zs st).1.length = k.length
  | [], k, st => rfl
  | z :: r, k, st => by
    rw [put_step]
    cases h : layAll k (pairsOf z l st) with
    | none => rfl
    | some k' =>
      show (putM l k' r (st + 1)).1.length = _
      rw [put_len, lay_len h]
/-- a strictly rising list is told by its members -/
theorem one_rising : ∀ {a b : List (List Nat)}, a.Pairwise (· < ·) → b.Pairwise (· < ·) → (∀ x, x ∈ a ↔ x ∈ b) → a = b
  | [], [], _, _, _ => rfl
  | [], y :: b, _, _, h => nomatch (h y).mpr List.mem_cons_self
  | x :: a, [], _, _, h => nomatch (h x).mp List.mem_cons_self
  | x :: a, y :: b, ha, hb, h => by
    obtain ⟨a1, a2⟩ := List.pairwise_cons.mp ha
    obtain ⟨b1, b2⟩ := List.pairwise_cons.mp hb
    have e : x = y := by
      rcases List.mem_cons.mp ((h x).mp List.mem_cons_self) with q | q
      · exact q
      · rcases List.mem_cons.mp ((h y).mpr List.mem_cons_self) with p | p
        · exact p.symm
        · exact absurd (List.lt_trans (a1 y p) (b1 x q)) (List.lt_irrefl _)
    subst e
    refine congrArg (x :: ·) (one_rising a2 b2 fun z => ⟨fun hz => ?_, fun hz => ?_⟩)
    · rcases List.mem_cons.mp ((h z).mp (List.mem_cons_of_mem _ hz)) with q | q
      · exact absurd (a1 z hz) (q ▸ List.lt_irrefl _)
      · exact q
    · rcases List.mem_cons.mp ((h z).mpr (List.mem_cons_of_mem _ hz)) with q | q
      · exact absurd (b1 z hz) (q ▸ List.lt_irrefl _)
      · exact q
def zAt (zs : List Str) (a : Nat) : Str := zs.getD a PySem.Str.empty
def remI (n : Nat) (s : List Nat) : List Nat := (List.range n).filter fun a => decide (a ∉ s)
def ordersM (n : Nat) : Nat → List (List Nat)
  | 0 => [[]]
  | i + 1 => (ordersM n i).flatMap fun s => (remI n s).map fun a => s ++ [a]
theorem mem_orders {n i : Nat} {s : List Nat} : s ∈ ordersM n (i + 1) ↔ ∃ s' ∈ ordersM n i, ∃ a ∈ remI n s', s = s' ++ [a] := by
  show s ∈ (ordersM n i).flatMap _ ↔ _
  rw [List.mem_flatMap]
  constructor
  · rintro ⟨s', h1, h2⟩
    obtain ⟨a, ha, rfl⟩ := List.mem_map.mp h2
    exact ⟨s', h1, a, ha, rfl⟩
  · rintro ⟨s', h1, a, ha, rfl⟩
    exact ⟨s', h1, List.mem_map.mpr ⟨a, ha, rfl⟩⟩
theorem mem_rem {n a : Nat} {s : List Nat} : a ∈ remI n s ↔ a < n ∧ a ∉ s := by
  unfold remI
  rw [List.mem_filter, List.mem_range, decide_eq_true_iff]
theorem orders_each {n : Nat} : ∀ {i : Nat} {s : List Nat}, s ∈ ordersM n i → s.length = i ∧ ∀ a ∈ s, a < n
  | 0, s, h => by
    rw [List.mem_singleton.mp h]
    exact ⟨rfl, fun a ha => by cases ha⟩
  | i + 1, s, h => by
    obtain ⟨s', h1, a, ha, rfl⟩ := mem_orders.mp h
    obtain ⟨g1, g2⟩ := orders_each h1
    refine ⟨by rw [List.length_append, g1]; rfl, fun b hb => ?_⟩
    rcases List.mem_append.mp hb with hb | hb
    · exact g2 b hb
    · rw [List.mem_singleton.mp hb]
      exact (mem_rem.mp ha).1
theorem mem_addP {ps : List Part} {x y : Part} : y ∈ addP ps x ↔ y ∈ ps ∨ y = x := by
  unfold addP
  split
  · rename_i h
    exact ⟨.inl, fun z => z.elim id fun e => e ▸ h⟩
  · rw [List.mem_append, List.mem_singleton]
theorem mem_each {l : List Nat} {st : Nat} {x y : Part} {acc : List Part} {i : Nat} : y ∈ eachM l st x acc i ↔ y ∈ acc ∨ ∃ k, layAll x.1 (pairsOf (x.2.getD i PySem.Str.empty) l st) = some k ∧ y = (k, cutAt x.2 i) := by
  unfold eachM
  cases h : layAll x.1 (pairsOf (x.2.getD i PySem.Str.empty) l st) with
  | none => exact ⟨.inl, fun z => z.elim id fun ⟨k, q, _⟩ => by cases q⟩
  | some k =>
    show y ∈ addP acc (k, cutAt x.2 i) ↔ _
    rw [mem_addP]
    exact ⟨fun z => z.imp id fun e => ⟨k, rfl, e⟩, fun z => z.imp id fun ⟨k', q, e⟩ => by cases q; exact e⟩
theorem mem_lookM {l : List Nat} {st : Nat} {x y : Part} {acc : List Part} : ∀ {n : Nat}, y ∈ lookM l st x acc n ↔ y ∈ acc ∨ ∃ i, i < n ∧ ∃ k, layAll x.1 (pairsOf (x.2.getD i PySem.Str.empty) l st) = some k ∧ y = (k, cutAt x.2 i)
  | 0 => ⟨.inl, fun z => z.elim id fun ⟨i, h, _⟩ => absurd h (Nat.not_lt_zero i)⟩
  | n + 1 => by
    rw [lookM_succ, mem_each, mem_lookM (n := n)]
    constructor
    · rintro ((h | ⟨i, hi, h⟩) | h)
      · exact .inl h
      · exact .inr ⟨i, by omega, h⟩
      · exact .inr ⟨n, by omega, h⟩
    · rintro (h | ⟨i, hi, h⟩)
      · exact .inl (.inl h)
      · by_cases e : i = n
        · subst e
          exact .inr h
        · exact .inl (.inr ⟨i, by omega, h⟩)
theorem mem_fold {l : List Nat} {st : Nat} {y : Part} : ∀ {ps acc : List Part}, y ∈ ps.foldl (fun acc x => lookM l st x acc x.2.length) acc ↔ y ∈ acc ∨ ∃ x ∈ ps, ∃ i, i < x.2.length ∧ ∃ k, layAll x.1 (pairsOf (x.2.getD i PySem.Str.empty) l st) = some k ∧ y = (k, cutAt x.2 i)
  | [], acc => ⟨.inl, fun z => z.elim id fun ⟨x, h, _⟩ => by cases h⟩
  | x :: ps, acc => by
    rw [List.foldl_cons, mem_fold (ps := ps), mem_lookM]
    constructor
    · rintro ((h | h) | ⟨x', hx, h⟩)
      · exact .inl h
      · exact .inr ⟨x, List.mem_cons_self, h⟩
      · exact .inr ⟨x', List.mem_cons_of_mem _ hx, h⟩
    · rintro (h | ⟨x', hx, h⟩)
      · exact .inl (.inl h)
      · rcases List.mem_cons.mp hx with rfl | hx
        · exact .inl (.inr h)
        · exact .inr ⟨x', hx, h⟩
theorem mem_step {l : List Nat} {st : Nat} {y : Part} {ps : List Part} : y ∈ stepP l st ps ↔ ∃ x ∈ ps, ∃ i, i < x.2.length ∧ ∃ k, layAll x.1 (pairsOf (x.2.getD i PySem.Str.empty) l st) = some k ∧ y = (k, cutAt x.2 i) := by
  unfold stepP
  rw [mem_fold]
  exact ⟨fun z => z.elim (fun h => by cases h) id, .inr⟩
theorem addP_nodup {ps : List Part} {x : Part} (h : ps.Nodup) : (addP ps x).Nodup := by
  unfold addP
  split
  · exact h
  · rename_i hx
    rw [List.nodup_append]
    refine ⟨h, by simp, fun a ha b hb e => ?_⟩
    rw [List.mem_singleton.mp hb] at e
    rw [e] at ha
    exact hx ha
theorem each_nodup {l : List Nat} {st : Nat} {x : Part} {acc : List Part} {i : Nat} (h : acc.Nodup) : (eachM l st x acc i).Nodup := by
  unfold eachM
  split
  · exact h
  · exact addP_nodup h
theorem look_nodup {l : List Nat} {st : Nat} {x : Part} {acc : List Part} (h : acc.Nodup) : ∀ n, (lookM l st x acc n).Nodup
  | 0 => h
  | n + 1 => by
    rw [lookM_succ]
    exact each_nodup (look_nodup h n)
theorem fold_nodup {l : List Nat} {st : Nat} : ∀ (ps acc : List Part), acc.Nodup → (ps.foldl (fun acc x => lookM l st x acc x.2.length) acc).Nodup
  | [], _, h => h
  | x :: ps, _, h => fold_nodup ps _ (look_nodup h _)
theorem put_snoc {l : List Nat} {z : Str} {k2 : List Nat} : ∀ {zs : List Str} {k : List Nat} {st : Nat}, putM l k (zs ++ [z]) st = (k2, none) ↔ ∃ k1, putM l k zs st = (k1, none) ∧ layAll k1 (pairsOf z l (st + zs.length)) = some k2
  | [], k, st => by
    show putM l k [z] st = _ ↔ ∃ k1, (k, none) = (k1, none) ∧ layAll k1 (pairsOf z l st) = some k2
    rw [put_step]
    cases h : layAll k (pairsOf z l st) with
    | none => exact ⟨fun q => (by cases q), fun ⟨k1, q, r⟩ => (by cases q; rw [h] at r; cases r)⟩
    | some k' => exact ⟨fun q => (by cases q; exact ⟨k, rfl, h⟩), fun ⟨k1, q, r⟩ => (by cases q; rw [h] at r; cases r; rfl)⟩
  | y :: zs, k, st => by
    rw [List.cons_append, put_step, put_step]
    cases h : layAll k (pairsOf y l st) with
    | none => exact ⟨fun q => (by cases q), fun ⟨k1, q, r⟩ => (by cases q)⟩
    | some k' =>
      show putM l k' (zs ++ [z]) (st + 1) = _ ↔ ∃ k1, putM l k' zs (st + 1) = (k1, none) ∧ _
      rw [put_snoc (zs := zs), List.length_cons, show st + 1 + zs.length = st + (zs.length + 1) by omega]
theorem perm_out {a : Nat} : ∀ {l : List Nat}, l.Nodup → a ∈ l → l.Perm (a :: l.filter fun b => decide (b ≠ a))
  | [], _, h => by cases h
  | x :: r, hn, h => by
    obtain ⟨h1, h2⟩ := List.nodup_cons.mp hn
    by_cases e : x = a
    · subst e
      have : (r.filter fun b => decide (b ≠ x)) = r := List.filter_eq_self.mpr fun b hb => decide_eq_true fun z => h1 (z ▸ hb)
      rw [List.filter_cons, if_neg (by simp), this]
    · have hr : a ∈ r := (List.mem_cons.mp h).resolve_left fun z => e z.symm
      rw [List.filter_cons, if_pos (decide_eq_true e)]
      exact ((perm_out h2 hr).cons x).trans (List.Perm.swap a x _)
theorem rem_snoc (n : Nat) (s : List Nat) (a : Nat) : remI n (s ++ [a]) = (remI n s).filter fun b => decide (b ≠ a) := by
  unfold remI
  rw [List.filter_filter]
  refine List.filter_congr fun b _ => ?_
  rw [← Bool.decide_and]
  refine decide_eq_decide.mpr ?_
  rw [List.mem_append, List.mem_singleton, not_or]
  exact And.comm
theorem rem_perm {n a : Nat} {s : List Nat} (h : a ∈ remI n s) : (remI n s).Perm (a :: remI n (s ++ [a])) := by
  rw [rem_snoc]
  exact perm_out (List.nodup_range.sublist List.filter_sublist) h
theorem rem_nil (n : Nat) : remI n [] = List.range n := List.filter_eq_self.mpr fun a _ => decide_eq_true (by simp)
theorem all_zAt (zs : List Str) : (List.range zs.length).map (zAt zs) = zs := by
  refine List.ext_getElem (by simp) fun i h1 h2 => ?_
  rw [List.getElem_map, List.getElem_range]
  unfold zAt
  rw [List.getD_eq_getElem?_getD, List.getElem?_eq_getElem h2]
  rfl
theorem cut_perm {l : List Str} {i : Nat} (h : i < l.length) : l.Perm (l.getD i PySem.Str.empty :: cutAt l i) := by
  have e : l = l.take i ++ l.getD i PySem.Str.empty :: l.drop (i + 1) := by
    rw [List.getD_eq_getElem?_getD, List.getElem?_eq_getElem h]
    show l = l.take i ++ l[i] :: l.drop (i + 1)
    rw [← List.drop_eq_getElem_cons h, List.take_append_drop]
  unfold cutAt
  conv => lhs; rw [e]
  exact List.perm_middle
section
variable {l k0 : List Nat} {zs left0 : List Str}
theorem parts_order (h0 : left0.Perm zs) : ∀ i, ∀ x ∈ partsM l [((k0, left0) : Part)] i, ∃ s ∈ ordersM zs.length i, putM l k0 (s.map (zAt zs)) 0 = (x.1, none) ∧ x.2.Perm ((remI zs.length s).map (zAt zs))
  | 0, x, hx => by
    rw [List.mem_singleton.mp hx]
    refine ⟨[], List.mem_singleton.mpr rfl, rfl, ?_⟩
    rw [rem_nil, all_zAt]
    exact h0
  | i + 1, y, hy => by
    obtain ⟨x, hx, j, hj, k, hk, rfl⟩ := mem_step.mp hy
    obtain ⟨s, hs, h1, h2⟩ := parts_order h0 i x hx
    have hm : x.2.getD j PySem.Str.empty ∈ x.2 := by
      rw [List.getD_eq_getElem?_getD, List.getElem?_eq_getElem hj]
      exact List.getElem_mem _
    obtain ⟨a, ha, hz⟩ := List.mem_map.mp (h2.mem_iff.mp hm)
    refine ⟨s ++ [a], mem_orders.mpr ⟨s, hs, a, ha, rfl⟩, ?_, ?_⟩
    · rw [List.map_append]
      refine put_snoc.mpr ⟨x.1, h1, ?_⟩
      rw [List.length_map, (orders_each hs).1, Nat.zero_add, hz]
      exact hk
    · have p1 := (cut_perm hj).symm.trans (h2.trans ((rem_perm ha).map (zAt zs)))
      rw [List.map_cons, hz] at p1
      exact p1.cons_inv
theorem order_parts (h0 : left0.Perm zs) : ∀ i, ∀ s ∈ ordersM zs.length i, ∀ k, putM l k0 (s.map (zAt zs)) 0 = (k, none) → ∃ x ∈ partsM l [((k0, left0) : Part)] i, x.1 = k ∧ x.2.Perm ((remI zs.length s).map (zAt zs))
  | 0, s, hs, k, hk => by
    rw [List.mem_singleton.mp hs] at hk ⊢
    cases hk
    refine ⟨(k0, left0), List.mem_singleton.mpr rfl, rfl, ?_⟩
    rw [rem_nil, all_zAt]
    exact h0
  | i + 1, s, hs, k, hk => by
    obtain ⟨s', hs', a, ha, rfl⟩ := mem_orders.mp hs
    rw [List.map_append] at hk
    obtain ⟨k1, h1, h2⟩ := put_snoc.mp hk
    rw [List.length_map, (orders_each hs').1, Nat.zero_add] at h2
    obtain ⟨x, hx, rfl, hp⟩ := order_parts h0 i s' hs' k1 h1
    have hm : zAt zs a ∈ x.2 := hp.mem_iff.mpr (List.mem_map.mpr ⟨a, ha, rfl⟩)
    obtain ⟨j, hj, e⟩ := List.getElem_of_mem hm
    have hg : x.2.getD j PySem.Str.empty = zAt zs a := by rw [List.getD_eq_getElem?_getD, List.getElem?_eq_getElem hj, e]; rfl
    refine ⟨(k, cutAt x.2 j), mem_step.mpr ⟨x, hx, j, hj, k, by rw [hg]; exact h2, rfl⟩, rfl, ?_⟩
    have p1 := (cut_perm hj).symm.trans (hp.trans ((rem_perm ha).map (zAt zs)))
    rw [List.map_cons, hg] at p1
    exact p1.cons_inv
theorem parts_nodup : ∀ i, (partsM l [((k0, left0) : Part)] i).Nodup
  | 0 => by simp [partsM]
  | i + 1 => fold_nodup _ _ List.nodup_nil
end
/-- the rows, as a set -/
theorem rows_iff {m : Str} {zs : List Str} {r : List Nat} : r ∈ (allParts m zs).map (·.1) ↔ ∃ s ∈ ordersM zs.length zs.length, putOf m (s.map (zAt zs)) = (r, none) := by
  have hp : (sortS zs).Perm zs := List.mergeSort_perm zs leS
  have ek : ∀ s ∈ ordersM zs.length zs.length, putOf m (s.map (zAt zs)) = putM (openM m) (unk m zs) (s.map (zAt zs)) 0 := fun s hs => by
    unfold putOf unk
    rw [List.length_map, (orders_each hs).1]
  constructor
  · intro h
    obtain ⟨x, hx, rfl⟩ := List.mem_map.mp h
    obtain ⟨s, hs, h1, _⟩ := parts_order hp _ x hx
    exact ⟨s, hs, by rw [ek s hs]; exact h1⟩
  · rintro ⟨s, hs, h1⟩
    rw [ek s hs] at h1
    obtain ⟨x, hx, rfl, _⟩ := order_parts hp _ s hs r h1
    exact List.mem_map.mpr ⟨x, hx, rfl⟩
theorem rows_nodup {m : Str} {zs : List Str} (hz : ∀ z ∈ zs, isLook m (.str z) = true) : ((allParts m zs).map (·.1)).Nodup := by
  have hw := (parts_well (m := m) (n := zs.length) rfl (p0_well hz) zs.length (Nat.le_refl _)).1
  have hn := parts_nodup (l := openM m) (k0 := unk m zs) (left0 := sortS zs) zs.length
  unfold allParts
  rw [List.nodup_iff_pairwise_ne, List.pairwise_map]
  rw [List.nodup_iff_pairwise_ne] at hn
  refine (List.Pairwise.and_mem.mp hn).imp fun {x y} ⟨hx, hy, hne⟩ e => hne ?_
  have h1 := (hw x hx).left
  have h2 := (hw y hy).left
  rw [Nat.sub_self] at h1 h2
  exact Prod.ext e (by rw [List.eq_nil_of_length_eq_zero h1, List.eq_nil_of_length_eq_zero h2])
theorem merge_one {a b : List (List Nat)} (ha : a.Nodup) (hb : b.Nodup) (h : ∀ x, x ∈ a ↔ x ∈ b) : (a.mergeSort fun x y => decide (x ≤ y)) = b.mergeSort fun x y => decide (x ≤ y) := by
  have st : ∀ {l : List (List Nat)}, l.Nodup → (l.mergeSort fun x y => decide (x ≤ y)).Pairwise (· < ·) := fun {l} hn => by
    have h1 := List.pairwise_mergeSort (le := fun x y : List Nat => decide (x ≤ y)) (fun x y z h1 h2 => decide_eq_true (List.le_trans (of_decide_eq_true h1) (of_decide_eq_true h2))) (fun x y => by
      rw [Bool.or_eq_true, decide_eq_true_eq, decide_eq_true_eq]
      exact List.le_total _ _) l
    have h2 : (l.mergeSort fun x y => decide (x ≤ y)).Nodup := (List.mergeSort_perm l _).nodup_iff.mpr hn
    refine (h1.and h2).imp fun {x y} c => ?_
    rcases List.le_iff_lt_or_eq.mp (of_decide_eq_true c.1) with q | q
    · exact q
    · exact absurd q c.2
  refine one_rising (st ha) (st hb) fun x => ?_
  rw [(List.mergeSort_perm a _).mem_iff, (List.mergeSort_perm b _).mem_iff, h]
/-- the sign that all have at a place, else ? -/
def sureC (g : List (List Nat)) (i : Nat) : Nat := if ∀ r ∈ g, r.getD i 0 = (g.headD []).getD i 0 then (g.headD []).getD i 0 else 63
theorem same_one {ds ss : List Str} (hd : ds.Nodup) (hm : ∀ k, k ∈ ds ↔ k ∈ ss) (hn : ss ≠ []) : ds.length = 1 ↔ ∀ x ∈ ss, x = ss.headD PySem.Str.empty := by
  obtain ⟨s0, ss', rfl⟩ := List.exists_cons_of_ne_nil hn
  show _ ↔ ∀ x ∈ s0 :: ss', x = s0
  constructor
  · intro h x hx
    obtain ⟨d, rfl⟩ := List.length_eq_one_iff.mp h
    rw [List.mem_singleton.mp ((hm x).mpr hx), List.mem_singleton.mp ((hm s0).mpr List.mem_cons_self)]
  · intro h
    cases ds with
    | nil => exact absurd ((hm s0).mpr List.mem_cons_self) (by simp)
    | cons a t =>
      cases t with
      | nil => rfl
      | cons b t =>
        have e1 := h a ((hm a).mp List.mem_cons_self)
        have e2 := h b ((hm b).mp (List.mem_cons_of_mem _ List.mem_cons_self))
        have := (List.nodup_cons.mp hd).1
        rw [e1, e2] at this
        exact absurd List.mem_cons_self this
def qm : Str := PySem.Str.ofString "?"
theorem qm_is : qm = ⟨#[63]⟩ := by decide +kernel
def sureV (g : List (List Nat)) (n : Nat) : V := if g.isEmpty then .non else .str (txt ((List.range n).map (sureC g)))
section
variable {K : PySem.W.Frag} {σ : L2.St} {H : Hp} {te : TE} {D : Ends} {tz : TS}
/-- len(set(..)) == 1 -/
theorem ev_one {a : Addr} {xs Y : List Str} {b : Bool} (h : Ev te σ H (.ref a)) (hx : SqT K H a (xs.map V.str) ∨ SqL K H a (xs.map V.str)) (hY : ∀ x ∈ xs, x ∈ Y) (hl : Y.length ≤ 4090) (hn : ∀ ds : List Str, ds.Nodup → (∀ k, k ∈ ds ↔ k ∈ xs) → (ds.length = 1 ↔ b = true)) :
    Ev (tOp rEq (tLenSetY K te) (tC (.int 1))) σ H (.bl b) := fun H1 e Q q => h H1 e _ fun H2 e2 => by
  refine ⟨a, xs, Y, rfl, hx.imp (fun s => ex_t (e.trans e2) s) (fun s => ex_l (e.trans e2) s), hY, hl, fun ds d1 d2 => ⟨rfl, ?_⟩⟩
  have k := hn ds d1 d2
  have z : decide (V.int (ds.length : Int) = V.int 1) = b := by
    cases b with
    | true => exact decide_eq_true (by rw [k.mpr rfl]; rfl)
    | false =>
      refine decide_eq_false fun h => ?_
      injection h with h
      have := k.mp (by omega)
      cases this
  rw [z]
  exact q H2 e2
theorem at0 {x : V} {l : List V} : atI (x :: l) 0 = some x := atI_nat (j := 0) rfl
end
def spCommon (K : PySem.W.Frag) : Sp := fun vs H Q _ => ∃ (a : Addr) (g : List (List Nat)) (n : Nat), vs = [.ref a, .str qm] ∧ SqL K H a (tS g) ∧ g ≠ [] ∧ n ≤ 60 ∧ (∀ r ∈ g, r.length = n) ∧ (∀ r ∈ g, ∀ x ∈ r, x ∈ [97, 98, 99, 100, 63]) ∧ RetV (.str (txt ((List.range n).map (sureC g)))) H Q
def spSureF (K : PySem.W.Frag) : Sp := fun vs H Q _ => ∃ (m : Str) (a : Addr) (zs : List Str), vs = [.str m, .ref a] ∧ isMask m = true ∧ SqA K H a (zs.map V.str) ∧ 1 ≤ zs.length ∧ zs.length ≤ 7 ∧ (∀ z ∈ zs, isLook m (.str z) = true) ∧ RetV (sureV (rowsM m zs) (zs.length + m.length - 1)) H Q
def RowQ (n : Nat) (r : List Nat) : Prop := r.length = n ∧ ∀ c ∈ r, c ∈ [97, 98, 99, 100, 63]
theorem lay_q : ∀ {ps : List (Nat × Nat)} {k k' : List Nat}, (∀ c ∈ k, c ∈ [97, 98, 99, 100, 63]) → (∀ p ∈ ps, p.1 ∈ [97, 98, 99, 100, 63]) → layAll k ps = some k' → ∀ c ∈ k', c ∈ [97, 98, 99, 100, 63]
  | [], k, k', h1, _, h => by cases h; exact h1
  | (s, a) :: r, k, k', h1, h2, h => by
    unfold layAll at h
    split at h
    · cases h
    · refine lay_q (fun c hc => ?_) (fun p hp => h2 p (List.mem_cons_of_mem _ hp)) h
      unfold setB at hc
      split at hc
      · exact h1 c hc
      · rcases List.mem_or_eq_of_mem_set hc with hc | hc
        · exact h1 c hc
        · rw [hc]
          exact h2 _ List.mem_cons_self
theorem pairs_q {m z : Str} {st : Nat} (h : isLook m (.str z) = true) : ∀ p ∈ pairsOf z (openM m) st, p.1 ∈ [97, 98, 99, 100, 63] := fun p hp => by
  unfold pairsOf at hp
  obtain ⟨i, hi, rfl⟩ := List.mem_map.mp hp
  have hi' := List.mem_range.mp hi
  exact look_mem h _ (mem_getDL (l := z.cps.toList) (i := i) (d := 0) (by rw [len_l]; exact hi'))
theorem put_q {m : Str} : ∀ {zs : List Str} {k : List Nat} {st : Nat}, (∀ c ∈ k, c ∈ [97, 98, 99, 100, 63]) → (∀ z ∈ zs, isLook m (.str z) = true) → ∀ c ∈ (putM (openM m) k zs st).1, c ∈ [97, 98, 99, 100, 63]
  | [], k, st, h1, _ => h1
  | z :: r, k, st, h1, h2 => by
    rw [put_step]
    cases h : layAll k (pairsOf z (openM m) st) with
    | none => exact h1
    | some k' => exact put_q (lay_q h1 (pairs_q (h2 z List.mem_cons_self)) h) fun y hy => h2 y (List.mem_cons_of_mem _ hy)
theorem putOf_q {m : Str} {zs : List Str} (h : ∀ z ∈ zs, isLook m (.str z) = true) : RowQ (zs.length + m.length - 1) (putOf m zs).1 := by
  refine ⟨?_, fun c hc => ?_⟩
  · unfold putOf
    rw [put_len, List.length_replicate]
  · unfold putOf at hc
    refine put_q (fun c hc => ?_) h c hc
    rw [List.eq_of_mem_replicate hc]
    decide
theorem zAt_mem {zs : List Str} {a : Nat} (h : a < zs.length) : zAt zs a ∈ zs := by
  unfold zAt
  rw [List.getD_eq_getElem?_getD, List.getElem?_eq_getElem h]
  exact List.getElem_mem _
theorem looks_of {m : Str} {zs : List Str} {s : List Nat} (h : ∀ z ∈ zs, isLook m (.str z) = true) (hs : s ∈ ordersM zs.length zs.length) : ∀ z ∈ s.map (zAt zs), isLook m (.str z) = true := fun z hz => by
  obtain ⟨a, ha, rfl⟩ := List.mem_map.mp hz
  exact h _ (zAt_mem ((orders_each hs).2 a ha))
theorem rows_q {m : Str} {zs : List Str} (h : ∀ z ∈ zs, isLook m (.str z) = true) : ∀ r ∈ rowsM m zs, RowQ (zs.length + m.length - 1) r := fun r hr => by
  unfold rowsM at hr
  obtain ⟨s, hs, e⟩ := rows_iff.mp ((List.mergeSort_perm _ _).mem_iff.mp hr)
  have := putOf_q (m := m) (looks_of h hs)
  rw [e, List.length_map, (orders_each hs).1] at this
  exact this
section
variable {P : Program} {w : World} {K : PySem.W.Frag} {mg : Str → Option Value} {base : Heap} {CM CV CG fG CK fK a_SMALL_WIDTH a_SMALL_SEEN : Addr}
theorem ok_common (e : Ent K mg "in_common" s_in_common p_in_common) (T : Top K mg CM CV CG fG CK fK a_SMALL_WIDTH a_SMALL_SEEN) : Cal P w K mg base CX0 1 "in_common" p_in_common (spCommon K) := by
  obtain ⟨f, fd, F, m_, b_⟩ := e
  refine ⟨f, fd, F.ok sc_in_common (fun vs H Q E h => ?_) (fun cdv A outer s H vs Q E hr h => ?_), m_, F.kp, b_⟩
  · obtain ⟨a, g, n, rfl, _⟩ := h
    rfl
  · obtain ⟨a, g, n, rfl, ha, hg, hn, hl, hm, q⟩ := h
    refine ⟨_, (pss_one (ps_ret (pe_join pe_str (pe_lc (own := [("signs", 2)]) (g := gName 2) (by rfl) sc_in_common.nd (pi_zipN rfl (by rfl) T.m_zip (pv 0)) (blkOk_by (own := [("signs", 2)]) (N := n_in_common) (sc := (defScope s_in_common)) (by decide +kernel)) (fun _ _ _ _ _ => pg_name (i := 2) sc_in_common.nd rfl (Or.inl rfl)) (fun _ _ _ _ _ => pts_nil) (fun _ _ _ _ _ => (pe_ifExp (pt_cmpR op_eq (pe_lenSetYK K rfl rfl (by rfl) T.m_len (by rfl) T.m_set (pv 2)) pe_int (nomark _)) (pe_ix (ix_tupK K rfl) (pv 2) pe_int (fun _ _ => rfl)) (pv 1))))))), ?_⟩
    rw [tS_strs] at ha
    refine s_ret (ev_join (l := (List.range n).map (sureC g)) rfl (el_is (el_lcZn (K := K) (xs := g.map txt) (m := n) (fun i => .str ⟨#[sureC g i]⟩) (ev_var rfl) ha (by
        rw [List.length_map]
        exact List.length_pos_iff.mpr hg) (fun x hx => by
        obtain ⟨r, hr, rfl⟩ := List.mem_map.mp hx
        show (txt r).length = n
        rw [txt_len, hl r hr]) (by omega) (fun _ => rfl) (fun i Ta H1 e1 hi hT => ?_)) (by rw [List.map_map]; rfl)) (by rw [List.length_map, List.length_range]; omega)) q
    have hss : ((g.map txt).map fun x => V.str ⟨#[x.cps.getD i 0]⟩) = (g.map fun r => (⟨#[r.getD i 0]⟩ : Str)).map V.str := by
      rw [List.map_map, List.map_map]
      refine List.map_congr_left fun r hr => ?_
      show V.str ⟨#[(txt r).cps.getD i 0]⟩ = V.str ⟨#[r.getD i 0]⟩
      congr 3
      rw [Array.getD_eq_getD_getElem?, ← Array.getElem?_toList, txt_l, List.getD_eq_getElem?_getD]
    rw [hss] at hT
    obtain ⟨r0, g', rfl⟩ := List.exists_cons_of_ne_nil hg
    have key : ∀ ds : List Str, ds.Nodup → (∀ k, k ∈ ds ↔ k ∈ (r0 :: g').map fun r => (⟨#[r.getD i 0]⟩ : Str)) → (ds.length = 1 ↔ ∀ r ∈ r0 :: g', r.getD i 0 = r0.getD i 0) := fun ds d1 d2 => by
      rw [same_one d1 d2 (by simp)]
      constructor
      · intro h r hr
        have z := h _ (List.mem_map.mpr ⟨r, hr, rfl⟩)
        have z := congrArg (fun z : Str => z.cps.toList) z
        simpa using z
      · intro h x hx
        obtain ⟨r, hr, rfl⟩ := List.mem_map.mp hx
        show (⟨#[r.getD i 0]⟩ : Str) = ⟨#[r0.getD i 0]⟩
        rw [h r hr]
    have hY : ∀ x ∈ (r0 :: g').map (fun r => (⟨#[r.getD i 0]⟩ : Str)), x ∈ [97, 98, 99, 100, 63].map fun c : Nat => (⟨#[c]⟩ : Str) := fun x hx => by
      obtain ⟨r, hr, rfl⟩ := List.mem_map.mp hx
      refine List.mem_map.mpr ⟨r.getD i 0, hm r hr _ ?_, rfl⟩
      rw [List.getD_eq_getElem?_getD, List.getElem?_eq_getElem (by rw [hl r hr]; exact hi)]
      exact List.getElem_mem _
    refine ev_if (b := decide (∀ r ∈ r0 :: g', r.getD i 0 = r0.getD i 0)) (et_test (ev_one (ev_var rfl) (.inl (st_of hT)) hY (by show 5 ≤ 4090; omega) fun ds d1 d2 => by rw [key ds d1 d2, decide_eq_true_iff])) (fun h => ?_) (fun h => ?_)
    · have h := of_decide_eq_true h
      have z : sureC (r0 :: g') i = r0.getD i 0 := if_pos h
      rw [z]
      exact ev_op (ev_var rfl) ev_c (rv_ixT (st_of hT) at0)
    · have h := of_decide_eq_false h
      have z : sureC (r0 :: g') i = 63 := if_neg h
      rw [z, ← qm_is]
      exact ev_var rfl
theorem ok_sureF (e : Ent K mg "sure_from" s_sure_from p_sure_from) (T : Top K mg CM CV CG fG CK fK a_SMALL_WIDTH a_SMALL_SEEN) (c1 : Cal P w K mg base CX0 7 "rows_from" p_rows_from (spRows K)) (c2 : Cal P w K mg base CX0 1 "in_common" p_in_common (spCommon K)) : Cal P w K mg base CX0 8 "sure_from" p_sure_from (spSureF K) := by
  obtain ⟨f, fd, F, m_, b_⟩ := e
  obtain ⟨f_rows_from, fd_rows_from, G_rows_from, m_rows_from, k_rows_from, b_rows_from⟩ := c1
  obtain ⟨f_in_common, fd_in_common, G_in_common, m_in_common, k_in_common, b_in_common⟩ := c2
  refine ⟨f, fd, F.ok sc_sure_from (fun vs H Q E h => ?_) (fun cdv A outer s H vs Q E hr h => ?_), m_, F.kp, b_⟩
  · obtain ⟨m, a, zs, rfl, _⟩ := h
    rfl
  · obtain ⟨m, a, zs, rfl, hm, ha, h1, h7, hz, q⟩ := h
    have l1 := isMask_len hm
    refine ⟨_, (pss_cons (ps_set (i := 2) sc_sure_from.nd rfl (Or.inl rfl) (pe_call G_rows_from (hr.mono (by decide)) (by rfl) m_rows_from k_rows_from b_rows_from .nil pass0 (pa_cons (pv 0) (pa_cons (pv 1) pa_nil))))
      (pss_one (ps_ret (pe_ifExp (pt_truth (pv 2) (by intro _; rfl)) (pe_call G_in_common (hr.mono (by decide)) (by rfl) m_in_common k_in_common b_in_common .nil pass0 (pa_cons (pv 2) (pa_cons (pe_glob (v := .str (PySem.Str.ofString "?")) (by rfl) T.g_UNREAD.choose_spec ⟨_, rfl⟩) pa_nil))) pe_non)))), ?_⟩
    refine q_asgL (xs := tS (rowsM m zs)) (el_call (ea_cons (ev_var rfl) (ea_cons (ev_var rfl) ea_nil)) fun G e Q q E => ⟨m, a, zs, rfl, hm, ha.ex e, h1, h7, hz, q⟩) fun p H1 np e1 hp => ?_
    have hq := rows_q hz
    generalize rowsM m zs = g at hp q hq
    refine s_ret (v := sureV g (zs.length + m.length - 1)) (ev_if (b := !g.isEmpty) ?_ (fun h => ?_) (fun h => ?_)) fun H2 e2 => q H2 (e1.trans e2)
    · intro H2 e2 Q2 q2
      refine ⟨_, rfl, _, .inl ⟨tS g, sq_of (e2 _ _ hp), rfl⟩, ?_⟩
      have : (tS g).isEmpty = g.isEmpty := by cases g <;> rfl
      rw [this]
      exact q2 H2 (Ex.refl _)
    · have hg : g ≠ [] := fun z => by rw [z] at h; cases h
      have z : sureV g (zs.length + m.length - 1) = .str (txt ((List.range (zs.length + m.length - 1)).map (sureC g))) := by
        unfold sureV
        rw [if_neg (by simpa using hg)]
      rw [z]
      exact ev_call (ea_cons (ev_var rfl) (ea_cons ev_c ea_nil)) fun G e Q q E => ⟨p, g, _, rfl, sq_of (e _ _ hp), hg, by omega, fun r hr => (hq r hr).1, fun r hr => (hq r hr).2, q⟩
    · have z : sureV g (zs.length + m.length - 1) = .non := by
        unfold sureV
        rw [if_pos (by simpa using h)]
      rw [z]
      exact ev_c
end
end K24
namespace K24
open PySem PySem.Spec PyProof.Rows L2 Evl Qt
theorem putF_twice (f : Str) (v v' : V) : ∀ fs : List (Str × V), putF f v' (putF f v fs) = putF f v' fs
  | [] => by
    show putF f v' [(f, v)] = [(f, v')]
    unfold putF
    rw [if_pos rfl]
  | (g, x) :: r => by
    by_cases h : g = f
    · rw [show putF f v ((g, x) :: r) = (g, v) :: r from if_pos h, show putF f v' ((g, v) :: r) = (g, v') :: r from if_pos h, show putF f v' ((g, x) :: r) = (g, v') :: r from if_pos h]
    · rw [show putF f v ((g, x) :: r) = (g, x) :: putF f v r from if_neg h, show putF f v' ((g, x) :: putF f v r) = (g, x) :: putF f v' (putF f v r) from if_neg h, show putF f v' ((g, x) :: r) = (g, x) :: putF f v' r from if_neg h, putF_twice f v v' r]
theorem lt_putF {f : Str} {v : V} {fs : List (Str × V)} {n : Nat} (h : fs.length < n) : (putF f v fs).length < n + 1 := Nat.lt_of_le_of_lt (length_putF _ _ _) (by omega)
/-- what a tracker keeps -/
def tF (F L : Addr) (row m : Str) : List (Str × V) := putF "_looks" (.ref L) (putF "_mask" (.str m) (putF "_row" (.str row) (putF "_found" (.ref F) [])))
theorem tF_len (F L : Addr) (row m : Str) : (tF F L row m).length < 1000 := Nat.lt_of_lt_of_le (lt_putF (lt_putF (lt_putF (lt_putF (n := 1) (by decide))))) (by decide)
theorem tF_put (F L L' : Addr) (row m : Str) : putF "_looks" (.ref L') (tF F L row m) = tF F L' row m := putF_twice _ _ _ _
theorem n1 : ¬ (("_found" : Str) = "_looks") := by decide +kernel
theorem n2 : ¬ (("_found" : Str) = "_mask") := by decide +kernel
theorem n3 : ¬ (("_found" : Str) = "_row") := by decide +kernel
theorem n6 : ¬ (("_mask" : Str) = "_looks") := by decide +kernel
theorem tF_found (F L : Addr) (row m : Str) : (tF F L row m).lookup ("_found" : Str) = some (.ref F) := by
  unfold tF
  rw [lookup_putF, if_neg n1, lookup_putF, if_neg n2, lookup_putF, if_neg n3, lookup_putF, if_pos rfl]
theorem tF_mask (F L : Addr) (row m : Str) : (tF F L row m).lookup ("_mask" : Str) = some (.str m) := by
  unfold tF
  rw [lookup_putF, if_neg n6, lookup_putF, if_pos rfl]
theorem tF_looks (F L : Addr) (row m : Str) : (tF F L row m).lookup ("_looks" : Str) = some (.ref L) := by
  unfold tF
  rw [lookup_putF, if_pos rfl]
theorem tF_no (F L : Addr) (row m : Str) {f : Str} (h1 : ¬ f = "_looks") (h2 : ¬ f = "_mask") (h3 : ¬ f = "_row") (h4 : ¬ f = "_found") : (tF F L row m).lookup f = none := by
  unfold tF
  rw [lookup_putF, if_neg h1, lookup_putF, if_neg h2, lookup_putF, if_neg h3, lookup_putF, if_neg h4]
  rfl
theorem tF_starts (F L : Addr) (row m : Str) : (tF F L row m).lookup ("starts" : Str) = none := tF_no F L row m (by decide +kernel) (by decide +kernel) (by decide +kernel) (by decide +kernel)
/-- a tracker over a row through a mask that has been told these looks -/
def TrkA (CK : Addr) (H : Hp) (t F L : Addr) (row m : Str) (zs : List Str) : Prop := ∃ dx, H t = some (.ins CK dx (tF F L row m)) ∧ H F = some (.lst ((viewsM row m).map V.str)) ∧ H L = some (.tup (zs.map V.str)) ∧ isRow row = true ∧ isMask m = true ∧ (∀ z ∈ zs, isLook m (.str z) = true) ∧ zs.length ≤ 50
theorem TrkA.ex {CK : Addr} {H H1 : Hp} {t F L : Addr} {row m : Str} {zs : List Str} (h : TrkA CK H t F L row m zs) (e : Ex H H1) : TrkA CK H1 t F L row m zs := by
  obtain ⟨dx, h1, h2, h3, h4⟩ := h
  exact ⟨dx, e _ _ h1, e _ _ h2, e _ _ h3, h4⟩
def offM (n : Nat) : List Int := (List.range n).map fun i : Nat => (i : Int)
def stM (row m : Str) (zs : List Str) : List Nat := startsM (viewsM row m) zs (offM zs.length)
def spTInit (CK : Addr) : Sp := fun vs H Q _ => ∃ (H0 : Hp) (x dx : Addr) (row m : Str), vs = [.ref x, .str row, .str m] ∧ Ex H0 H ∧ H0 x = none ∧ H x = some (.ins CK dx []) ∧ isRow row = true ∧ isMask m = true ∧
  ∀ H' F L, Ex H0 H' → H0 F = none → H0 L = none → F ≠ x → L ≠ x → TrkA CK H' x F L row m [] → Q .non H'
def spTStarts (CK : Addr) : Sp := fun vs H Q _ => ∃ (t F L : Addr) (row m : Str) (zs : List Str), vs = [.ref t] ∧ TrkA CK H t F L row m zs ∧ RetL ((stM row m zs).map fun f : Nat => V.int (f : Int)) H Q
def spTPlaces (CK : Addr) : Sp := fun vs H Q _ => ∃ (t F L : Addr) (row m : Str) (zs : List Str), vs = [.ref t] ∧ TrkA CK H t F L row m zs ∧ RetL ((stM row m zs).map fun f : Nat => V.int (((f + (zs.length - 1) : Nat)) : Int)) H Q
def spSee (K : PySem.W.Frag) (CK CV : Addr) : Sp := fun vs H Q E => ∃ (t F L : Addr) (row m : Str) (zs : List Str) (v : V), vs = [.ref t, v] ∧ TrkA CK H t F L row m zs ∧ zs.length ≤ 40 ∧ VOk K H v ∧
  (isLook m v = false → ∀ H', Ex H H' → E (.ref CV) none H') ∧ (∀ z, v = .str z → isLook m v = true → ∀ H' L', Xr K t H H' → H L' = none → L' ≠ t → TrkA CK H' t F L' row m (zs ++ [z]) → Q (.int ((stM row m (zs ++ [z])).length : Int)) H')
def spUndo (K : PySem.W.Frag) (CK : Addr) : Sp := fun vs H Q _ => ∃ (t F L : Addr) (row m : Str) (zs : List Str), vs = [.ref t] ∧ TrkA CK H t F L row m zs ∧ ∀ H' L', Xr K t H H' → (H L' = none ∨ L' = L) → L' ≠ t → TrkA CK H' t F L' row m zs.dropLast → Q (.bl (decide (0 < zs.length))) H'
def spTLen (CK : Addr) : Sp := fun vs H Q _ => ∃ (t F L : Addr) (row m : Str) (zs : List Str), vs = [.ref t] ∧ TrkA CK H t F L row m zs ∧ RetV (.int (zs.length : Int)) H Q
section
variable {P : Program} {w : World} {K : PySem.W.Frag} {mg : Str → Option Value} {base : Heap} {CM CV CG fG CK fK a_SMALL_WIDTH a_SMALL_SEEN : Addr}
theorem ok_tinit (T : Top K mg CM CV CG fG CK fK a_SMALL_WIDTH a_SMALL_SEEN) (c1 : Cal P w K mg base CX0 5 "views" p_views spViews) : ∃ fd, FnOk P w K mg base CX0 (5 + 1) fK fd p_Tracker___init__ (spTInit CK) ∧ L2.Binds K fd p_Tracker___init__ [] := by
  obtain ⟨fd, F, b_⟩ := T.t_Tracker_init
  obtain ⟨f_views, fd_views, G_views, m_views, k_views, b_views⟩ := c1
  have cl := T.c_Tracker.cl
  have na := T.c_Tracker.na
  refine ⟨fd, F.ok sc_Tracker___init__ (fun vs H Q E h => ?_) (fun cdv A outer s H vs Q E hr h => ?_), b_⟩
  · obtain ⟨H0, x, dx, row, m, rfl, _⟩ := h
    rfl
  · obtain ⟨H0, x, dx, row, m, rfl, e0, n0, hx, hr', hm, q⟩ := h
    refine ⟨_, (pss_cons (ps_fld (pv 0) (pe_call G_views (hr.mono (by decide)) (by rfl) m_views k_views b_views .nil pass0 (pa_cons (pv 1) (pa_cons (pv 2) pa_nil))) rfl)
      (pss_cons (ps_fld (pv 0) (pv 1) rfl)
      (pss_cons (ps_fld (pv 0) (pv 2) rfl)
      (pss_one (ps_fld (pv 0) (pe_tup pa_nil) rfl))))), ?_⟩
    refine ⟨_, rfl, _, rfl, row, m, rfl, hr', hm, fun F H1 nF e1 hF => ⟨_, rfl, x, CK, dx, [], rfl, e1 _ _ hx, cl, na _ (by simp), by simp, ?_⟩⟩
    have Fx : F ≠ x := fun z => by rw [z, hx] at nF; cases nF
    refine ⟨_, rfl, _, rfl, x, CK, dx, _, rfl, upd_same, cl, na _ (by simp), Nat.lt_of_lt_of_le (lt_putF (n := 1) (by decide)) (by decide), ?_⟩
    refine ⟨_, rfl, _, rfl, x, CK, dx, _, rfl, upd_same, cl, na _ (by simp), Nat.lt_of_lt_of_le (lt_putF (lt_putF (n := 1) (by decide))) (by decide), ?_⟩
    have s1 : Ex H0 (upd H1 x (.ins CK dx (putF "_found" (.ref F) []))) := Ex.mut (e0.trans e1) n0
    have s2 : Ex H0 (upd (upd H1 x (.ins CK dx (putF "_found" (.ref F) []))) x (.ins CK dx (putF "_row" (.str row) (putF "_found" (.ref F) [])))) := Ex.mut s1 n0
    have s3 : Ex H0 (upd (upd (upd H1 x (.ins CK dx (putF "_found" (.ref F) []))) x (.ins CK dx (putF "_row" (.str row) (putF "_found" (.ref F) [])))) x (.ins CK dx (putF "_mask" (.str m) (putF "_row" (.str row) (putF "_found" (.ref F) []))))) := Ex.mut s2 n0
    refine ⟨by show 0 ≤ sizeLine; decide, fun L nL => ⟨_, rfl, x, CK, dx, _, rfl, (Ex.new nL) _ _ upd_same, cl, na _ (by simp), Nat.lt_of_lt_of_le (lt_putF (lt_putF (lt_putF (n := 1) (by decide)))) (by decide), ?_⟩⟩
    have Lx : L ≠ x := fun z => by rw [z, upd_same] at nL; cases nL
    have FL : F ≠ L := fun z => by
      rw [← z, upd_ne Fx, upd_ne Fx, upd_ne Fx, hF] at nL
      cases nL
    refine q _ F L (Ex.mut (s3.trans (Ex.new nL)) n0) (fresh_back e0 nF) (fresh_back s3 nL) Fx Lx ⟨dx, upd_same, ?_, ?_, hr', hm, (fun z hz => by cases hz), by simp⟩
    · rw [upd_ne Fx, upd_ne FL, upd_ne Fx, upd_ne Fx, upd_ne Fx]
      exact hF
    · rw [upd_ne Lx]
      exact upd_same
theorem ok_tlen (T : Top K mg CM CV CG fG CK fK a_SMALL_WIDTH a_SMALL_SEEN) : ∃ g fd, Meth K CK "__len__" g ∧ FnOk P w K mg base CX0 1 g fd p_Tracker___len__ (spTLen CK) ∧ L2.Binds K fd p_Tracker___len__ [] := by
  obtain ⟨g, fd, mt, F, b_⟩ := T.t_Tracker___len__
  have cl := T.c_Tracker.cl
  have na := T.c_Tracker.na
  refine ⟨g, fd, mt, F.ok sc_Tracker___len__ (fun vs H Q E h => ?_) (fun cdv A outer s H vs Q E hr h => ?_), b_⟩
  · obtain ⟨t, F, L, row, m, zs, rfl, _⟩ := h
    rfl
  · obtain ⟨t, F, L, row, m, zs, rfl, ⟨dx, h1, h2, h3, hr', hm, hz, h50⟩, q⟩ := h
    refine ⟨_, (pss_one (ps_ret (pe_callB call_len (by rfl) T.m_len (by decide +kernel) (pa_cons (pe_fld (pv 0) rfl) pa_nil)))), ?_⟩
    exact s_ret (ev_is (ev_cb (ea_cons (ev_fld (ev_var rfl) h1 cl (na "_looks" (by simp)) (tF_looks _ _ _ _)) ea_nil) (rc_lenA (xs := zs.map V.str) (.inr h3))) (by rw [List.length_map])) q
theorem rc_max2 {H : Hp} {i j : Int} : RC (fun xs H Q => ∃ i j, xs = [.int i, .int j] ∧ Q (.int (if j > i then j else i)) H) [.int i, .int j] H (.int (if j > i then j else i)) := fun H1 _ _ q => ⟨i, j, rfl, q H1 (Ex.refl H1)⟩
theorem viewsN (row m : Str) : (viewsM row m).length = row.length + 1 - m.length := by unfold viewsM; simp
theorem starts_le (row m : Str) (zs : List Str) : (stM row m zs).length ≤ (viewsM row m).length :=
  Nat.le_trans (List.length_filter_le _ _) (firsts_len _ _)
theorem off_len (n : Nat) : (offM n).length = n := by simp [offM]
theorem ok_tstarts (T : Top K mg CM CV CG fG CK fK a_SMALL_WIDTH a_SMALL_SEEN) (c1 : Cal P w K mg base CX0 3 "starts_of" p_starts_of (spStarts K)) : ∃ g fd, Meth K CK "starts" g ∧ FnOk P w K mg base CX0 (3 + 1) g fd p_Tracker_starts (spTStarts CK) ∧ L2.Binds K fd p_Tracker_starts [] := by
  obtain ⟨g, fd, mt, F, b_⟩ := T.t_Tracker_starts
  obtain ⟨f_starts_of, fd_starts_of, G_starts_of, m_starts_of, k_starts_of, b_starts_of⟩ := c1
  have cl := T.c_Tracker.cl
  have na := T.c_Tracker.na
  refine ⟨g, fd, mt, F.ok sc_Tracker_starts (fun vs H Q E h => ?_) (fun cdv A outer s H vs Q E hr h => ?_), b_⟩
  · obtain ⟨t, F, L, row, m, zs, rfl, _⟩ := h
    rfl
  · obtain ⟨t, F, L, row, m, zs, rfl, ⟨dx, h1, h2, h3, hr', hm, hz, h50⟩, q⟩ := h
    have l1 := row_len hr'
    have l2 := isMask_len hm
    have l3 := open_len m
    refine ⟨_, (pss_one (ps_ret (pe_call G_starts_of (hr.mono (by decide)) (by rfl) m_starts_of k_starts_of b_starts_of .nil pass0 (pa_cons (pe_fld (pv 0) rfl) (pa_cons (pe_fld (pv 0) rfl) (pa_cons (pe_callTy (call_list_rng rfl) (by rfl) T.m_list (by decide +kernel) (pa_cons (pe_callTy cr_range1 (by rfl) T.m_range (by decide +kernel) (pa_cons (pe_callB call_len (by rfl) T.m_len (by decide +kernel) (pa_cons (pe_fld (pv 0) rfl) pa_nil)) pa_nil)) pa_nil)) pa_nil)))))), ?_⟩
    refine ⟨_, rfl, t, CK, dx, _, _, rfl, h1, cl, na "_found" (by simp), tF_found _ _ _ _, _, rfl, t, CK, dx, _, _, rfl, h1, cl, na "_looks" (by simp), tF_looks _ _ _ _, _, rfl, t, CK, dx, _, _, rfl, h1, cl, na "_looks" (by simp), tF_looks _ _ _ _, .ref L, zs.length, rfl, .inr ⟨zs.map V.str, st_of h3, by simp⟩, ?_⟩
    have ho : ((List.range zs.length).map fun i : Nat => V.int (i : Int)) = intsV (offM zs.length) := by unfold intsV offM; rw [List.map_map]; rfl
    refine ⟨(zs.length : Int), rfl, fun p np => ⟨p, zs.length, rfl, upd_same, by omega, fun o no => ⟨F, L, o, viewsM row m, zs, offM zs.length, rfl, sq_of ((Ex.new no) _ _ ((Ex.new np) _ _ h2)), .inr ((Ex.new no) _ _ ((Ex.new np) _ _ h3)), sq_of (by rw [← ho]; exact upd_same), by rw [off_len], by rw [off_len]; omega, by rw [viewsN]; omega, fun x hx => ?_, ?_⟩⟩⟩
    · have hxl : x.length = (openM m).length := by
        unfold viewsM at hx
        obtain ⟨st, _, rfl⟩ := List.mem_map.mp hx
        unfold viewM
        rw [txt_len, List.length_map]
      exact ⟨by omega, fun z hz' => by rw [look_len (hz z hz'), hxl]⟩
    · exact fun p' H' np' e' hp' => q p' H' (fresh_back ((Ex.new np).trans (Ex.new no)) np') (((Ex.new np).trans (Ex.new no)).trans e') hp'
theorem ok_tplaces (T : Top K mg CM CV CG fG CK fK a_SMALL_WIDTH a_SMALL_SEEN) (c1 : ∃ g fd, Meth K CK "starts" g ∧ FnOk P w K mg base CX0 (3 + 1) g fd p_Tracker_starts (spTStarts CK) ∧ L2.Binds K fd p_Tracker_starts []) : ∃ g fd, Meth K CK "places" g ∧ FnOk P w K mg base CX0 (3 + 2) g fd p_Tracker_places (spTPlaces CK) ∧ L2.Binds K fd p_Tracker_places [] := by
  obtain ⟨g, fd, mt, F, b_⟩ := T.t_Tracker_places
  obtain ⟨g_Tracker_starts, fd_Tracker_starts, mt_Tracker_starts, G_Tracker_starts, b_Tracker_starts⟩ := c1
  have cl_Tracker := T.c_Tracker.cl
  have na := T.c_Tracker.na
  refine ⟨g, fd, mt, F.ok sc_Tracker_places (fun vs H Q E h => ?_) (fun cdv A outer s H vs Q E hr h => ?_), b_⟩
  · obtain ⟨t, F, L, row, m, zs, rfl, _⟩ := h
    rfl
  · obtain ⟨t, F, L, row, m, zs, rfl, hT, q⟩ := h
    obtain ⟨dx, h1, h2, h3, hr', hm, hz, h50⟩ := id hT
    have sl := starts_le row m zs
    have l1 := row_len hr'
    rw [viewsN] at sl
    refine ⟨_, (pss_cons (ps_set (i := 1) sc_Tracker_places.nd rfl (Or.inr rfl) (pe_callB (call_max2 rfl) (by rfl) T.m_max (by decide +kernel) (pa_cons (pe_op op_sub (pe_callB call_len (by rfl) T.m_len (by decide +kernel) (pa_cons (pe_fld (pv 0) rfl) pa_nil)) pe_int) (pa_cons pe_int pa_nil))))
      (pss_one (ps_ret (pe_lc (own := [("start", 2)]) (g := gName 2) (by rfl) sc_Tracker_places.nd (pi_list (pe_meth0 (pv 0) cl_Tracker mt_Tracker_starts G_Tracker_starts (hr.mono (by decide)) b_Tracker_starts .nil pass0)) (blkOk_by (own := [("start", 2)]) (N := n_Tracker_places) (sc := (defScope s_Tracker_places)) (by decide +kernel)) (fun _ _ _ _ _ => pg_name (i := 2) sc_Tracker_places.nd rfl (Or.inl rfl)) (fun _ _ _ _ _ => pts_nil) (fun _ _ _ _ _ => (pe_op op_add (pv 2) (pv 1))))))), ?_⟩
    refine q_asg (v := .int ((zs.length - 1 : Nat) : Int)) (ev_is (ev_cb (ea_cons (ev_op (x := .int (zs.length : Int)) (ev_is (ev_cb (ea_cons (ev_fld (ev_var rfl) h1 cl_Tracker (na "_looks" (by simp)) (tF_looks _ _ _ _)) ea_nil) (rc_lenA (xs := zs.map V.str) (.inr h3))) (by rw [List.length_map])) ev_c rv_I0) (ea_cons ev_c ea_nil)) rc_max2) ?_) fun H1 e1 => ?_
    · congr 1
      split <;> omega
    · have hT1 := hT.ex e1
      obtain ⟨dx', h1', _⟩ := hT1
      refine s_retL (xs := (stM row m zs).map fun f : Nat => V.int ((f + (zs.length - 1) : Nat) : Int)) (el_is (el_lcNL (xs := (stM row m zs).map fun f : Nat => V.int (f : Int)) (fun _ => true) (fun i => .int (((stM row m zs).getD i 0 + (zs.length - 1) : Nat) : Int)) (fun G e Q2 q2 => ⟨_, rfl, t, dx', _, rfl, e _ _ h1', tF_starts _ _ _ _, t, F, L, row, m, zs, rfl, hT.ex (e1.trans e), q2⟩) (by rw [List.length_map]; omega) (fun _ => rfl) (fun _ _ _ _ _ => et_yes) (fun i x G e hx _ => ?_)) ?_) fun p H2 np e2 hp => q p H2 (fresh_back e1 np) (e1.trans e2) hp
      · rw [List.getElem?_map] at hx
        cases hk : (stM row m zs)[i]? with
        | none => rw [hk] at hx; cases hx
        | some k =>
          rw [hk] at hx
          obtain rfl : x = .int (k : Int) := (Option.some.inj hx).symm
          exact ev_is (ev_op (ev_var rfl) (ev_var rfl) rv_I0) (by rw [List.getD_eq_getElem?_getD, hk]; rfl)
      · rw [given_all, List.length_map, range_getD (stM row m zs) fun f => V.int ((f + (zs.length - 1) : Nat) : Int)]
theorem ok_tsee (T : Top K mg CM CV CG fG CK fK a_SMALL_WIDTH a_SMALL_SEEN) (c1 : ∃ g fd, Meth K CK "starts" g ∧ FnOk P w K mg base CX0 (3 + 1) g fd p_Tracker_starts (spTStarts CK) ∧ L2.Binds K fd p_Tracker_starts []) (c2 : Cal P w K mg base (L2.CX P w) 3 "check_look" p_check_look (spCheckLook K CV)) : ∃ g fd, Meth K CK "see" g ∧ FnOk P w K mg base (L2.CX P w) (3 + 2) g fd p_Tracker_see (spSee K CK CV) ∧ L2.Binds K fd p_Tracker_see [] := by
  obtain ⟨g, fd, mt, F, b_⟩ := T.t_Tracker_see
  obtain ⟨g_Tracker_starts, fd_Tracker_starts, mt_Tracker_starts, G_Tracker_starts, b_Tracker_starts⟩ := c1
  obtain ⟨f_check_look, fd_check_look, G_check_look, m_check_look, k_check_look, b_check_look⟩ := c2
  have cl_Tracker := T.c_Tracker.cl
  have na := T.c_Tracker.na
  refine ⟨g, fd, mt, F.okX sc_Tracker_see (fun vs H Q E h => ?_) (fun cdv A outer s H vs Q E hr h => ?_), b_⟩
  · obtain ⟨t, F, L, row, m, zs, v, rfl, _⟩ := h
    rfl
  · obtain ⟨t, F, L, row, m, zs, v, rfl, hT, h40, hv, q1, q2⟩ := h
    obtain ⟨dx, h1, h2, h3, hr', hm, hz, h50⟩ := id hT
    have l2 := isMask_len hm
    have Ft : F ≠ t := fun z => by rw [z, h1] at h2; cases h2
    refine ⟨_, (pss_cons (ps_expr (pe_call G_check_look (hr.mono (by decide)) (by rfl) m_check_look k_check_look b_check_look .nil (passes_call (takes_of rfl rfl rfl rfl) (fun _ _ _ _ h => h)) (pa_cons (pv 1) (pa_cons (pe_fld (pv 0) rfl) pa_nil))))
      (pss_cons (ps_fld (pv 0) (pe_op op_catA (pe_fld (pv 0) rfl) (pe_tup (pa_cons (pv 1) pa_nil))) rfl)
      (pss_one (ps_ret (pe_callB call_len (by rfl) T.m_len (by decide +kernel) (pa_cons (pe_meth0 (pv 0) cl_Tracker mt_Tracker_starts G_Tracker_starts (hr.mono (by decide)) b_Tracker_starts .nil pass0) pa_nil)))))), ?_⟩
    refine x_call (vs := [v, .str m]) (ea_cons (ev_var rfl) (ea_cons (ev_fld (ev_var rfl) h1 cl_Tracker (na "_mask" (by simp)) (tF_mask _ _ _ _)) ea_nil)) fun H1 e1 => ?_
    refine ⟨v, m, rfl, hv.ex e1, by omega, fun hlk H2 e2 => ?_, fun hlk H' e' => q1 hlk H' (e1.trans e')⟩
    have e12 := e1.trans e2
    obtain ⟨z, rfl⟩ := look_str hlk
    have hzz : ∀ z' ∈ zs ++ [z], isLook m (.str z') = true := fun z' hz' => by
      rcases List.mem_append.mp hz' with k | k
      · exact hz z' k
      · rw [List.mem_singleton.mp k]; exact hlk
    dsimp only [tSeq, tDrop]
    refine ⟨_, rfl, t, CK, dx, _, _, rfl, e12 _ _ h1, cl_Tracker, na "_looks" (by simp), tF_looks _ _ _ _, _, rfl, by show 1 ≤ sizeLine; decide, fun p np => ?_⟩
    have e13 := e12.trans (Ex.new (o := .tup [V.str z]) np)
    have np' := fresh_back e12 np
    refine ⟨L, p, zs.map V.str, [.str z], rfl, rfl, st_of (e13 _ _ h3), st_of upd_same, by rw [sizeLine_eq, List.length_map]; show zs.length + 1 ≤ _; omega, fun he => ?_, (fun _ hn => by cases hn), fun hne _ p2 np2 => ?_⟩
    · have hz0 : zs = [] := by simpa using he
      refine ⟨_, rfl, t, CK, dx, _, rfl, e13 _ _ h1, cl_Tracker, na "_looks" (by simp), tF_len _ _ _ _, ?_⟩
      rw [tF_put]
      have Lt : p ≠ t := fun z => by rw [z] at np'; rw [h1] at np'; cases np'
      have hTn : TrkA CK (upd (upd H2 p (.tup [V.str z])) t (.ins CK dx (tF F p row m))) t F p row m (zs ++ [z]) := ⟨dx, upd_same, by rw [upd_ne Ft]; exact e13 _ _ h2, by rw [upd_ne Lt, hz0]; exact upd_same, hr', hm, hzz, by simp; omega⟩
      refine ⟨_, rfl, t, dx, _, rfl, upd_same, tF_starts _ _ _ _, t, F, p, row, m, zs ++ [z], rfl, hTn, fun p3 H3 np3 e3 hp3 => ⟨.ref p3, (stM row m (zs ++ [z])).length, rfl, .inl ⟨_, sq_of hp3, by rw [List.length_map]⟩, ?_⟩⟩
      exact q2 z rfl hlk H3 p (fun a o ha hao => e3 _ _ (by rw [upd_ne ha]; exact e13 _ _ hao)) np' Lt (hTn.ex e3)
    · have e14 := e13.trans (Ex.new (o := .tup (zs.map V.str ++ [V.str z])) np2)
      have np2' := fresh_back e13 np2
      refine ⟨_, rfl, t, CK, dx, _, rfl, e14 _ _ h1, cl_Tracker, na "_looks" (by simp), tF_len _ _ _ _, ?_⟩
      rw [tF_put]
      have Lt : p2 ≠ t := fun z => by rw [z] at np2'; rw [h1] at np2'; cases np2'
      have hTn : TrkA CK (upd (upd (upd H2 p (.tup [V.str z])) p2 (.tup (zs.map V.str ++ [V.str z]))) t (.ins CK dx (tF F p2 row m))) t F p2 row m (zs ++ [z]) := ⟨dx, upd_same, by rw [upd_ne Ft]; exact e14 _ _ h2, by rw [upd_ne Lt, List.map_append]; exact upd_same, hr', hm, hzz, by simp; omega⟩
      refine ⟨_, rfl, t, dx, _, rfl, upd_same, tF_starts _ _ _ _, t, F, p2, row, m, zs ++ [z], rfl, hTn, fun p3 H3 np3 e3 hp3 => ⟨.ref p3, (stM row m (zs ++ [z])).length, rfl, .inl ⟨_, sq_of hp3, by rw [List.length_map]⟩, ?_⟩⟩
      exact q2 z rfl hlk H3 p2 (fun a o ha hao => e3 _ _ (by rw [upd_ne ha]; exact e14 _ _ hao)) np2' Lt (hTn.ex e3)
theorem ok_tundo (T : Top K mg CM CV CG fG CK fK a_SMALL_WIDTH a_SMALL_SEEN) : ∃ g fd, Meth K CK "undo" g ∧ FnOk P w K mg base CX0 1 g fd p_Tracker_undo (spUndo K CK) ∧ L2.Binds K fd p_Tracker_undo [] := by
  obtain ⟨g, fd, mt, F, b_⟩ := T.t_Tracker_undo
  have cl := T.c_Tracker.cl
  have na := T.c_Tracker.na
  refine ⟨g, fd, mt, F.ok sc_Tracker_undo (fun vs H Q E h => ?_) (fun cdv A outer s H vs Q E hr h => ?_), b_⟩
  · obtain ⟨t, F, L, row, m, zs, rfl, _⟩ := h
    rfl
  · obtain ⟨t, F, L, row, m, zs, rfl, ⟨dx, h1, h2, h3, hr', hm, hz, h50⟩, q⟩ := h
    have Ft : F ≠ t := fun z => by rw [z, h1] at h2; cases h2
    refine ⟨_, (pss_cons (ps_set (i := 1) sc_Tracker_undo.nd rfl (Or.inl rfl) (pe_callB call_len (by rfl) T.m_len (by decide +kernel) (pa_cons (pe_fld (pv 0) rfl) pa_nil)))
      (pss_cons (ps_fld (pv 0) (pe_slice sl_tupW (pe_fld (pv 0) rfl) po_none (po_some (pe_un un_neg pe_int))) rfl)
      (pss_one (ps_ret (pe_cmpR op_gt (pv 1) pe_int (nomark _)))))), ?_⟩
    refine q_asg (v := .int (zs.length : Int)) (ev_is (ev_cb (ea_cons (ev_fld (ev_var rfl) h1 cl (na "_looks" (by simp)) (tF_looks _ _ _ _)) ea_nil) (rc_lenA (xs := zs.map V.str) (.inr h3))) (by rw [List.length_map])) fun H1 e1 => ?_
    refine ⟨_, rfl, t, CK, dx, _, _, rfl, e1 _ _ h1, cl, na "_looks" (by simp), tF_looks _ _ _ _, _, rfl, _, rfl, L, zs.map V.str, rfl, st_of (e1 _ _ h3), fun _ hw => ?_, fun hw p np => ?_⟩
    · have hz0 : zs = [] := by
        have := hw
        unfold HT.sIx at this
        rw [List.length_map] at this
        simp only at this
        rw [if_pos (by decide)] at this
        exact List.length_eq_zero_iff.mp (by omega)
      have Lt : L ≠ t := fun z => by rw [z, h1] at h3; cases h3
      refine ⟨_, rfl, t, CK, dx, _, rfl, e1 _ _ h1, cl, na "_looks" (by simp), tF_len _ _ _ _, ?_⟩
      rw [tF_put]
      refine s_ret (v := .bl (decide (0 < zs.length))) (ev_is (ev_op (ev_var rfl) ev_c rv_I0) (by congr 1; exact decide_eq_decide.mpr (by omega))) fun H5 e5 => ?_
      exact q H5 L (fun a o ha hao => e5 _ _ (by rw [upd_ne ha]; exact e1 _ _ hao)) (.inr rfl) Lt (TrkA.ex ⟨dx, upd_same, by rw [upd_ne Ft]; exact e1 _ _ h2, by rw [upd_ne Lt]; exact (by rw [hz0]; have z := e1 _ _ h3; rw [hz0] at z; exact z), hr', hm, (fun z hz' => hz z (List.dropLast_subset _ hz')), by rw [List.length_dropLast]; omega⟩ e5)
    · have e12 := e1.trans (Ex.new (o := .tup (cutV (zs.map V.str) none (some (-1)))) np)
      have Lt : p ≠ t := fun z => by rw [z, e1 _ _ h1] at np; cases np
      have hcut : cutV (zs.map V.str) none (some (-1)) = zs.dropLast.map V.str := by rw [cut_but (α := Nat), List.map_dropLast]
      refine ⟨_, rfl, t, CK, dx, _, rfl, e12 _ _ h1, cl, na "_looks" (by simp), tF_len _ _ _ _, ?_⟩
      rw [tF_put]
      refine s_ret (v := .bl (decide (0 < zs.length))) (ev_is (ev_op (ev_var rfl) ev_c rv_I0) (by congr 1; exact decide_eq_decide.mpr (by omega))) fun H5 e5 => ?_
      exact q H5 p (fun a o ha hao => e5 _ _ (by rw [upd_ne ha]; exact e12 _ _ hao)) (.inl (fresh_back e1 np)) Lt (TrkA.ex ⟨dx, upd_same, by rw [upd_ne Ft]; exact e12 _ _ h2, by rw [upd_ne Lt]; exact (by rw [← hcut]; exact upd_same), hr', hm, (fun z hz' => hz z (List.dropLast_subset _ hz')), by rw [List.length_dropLast]; omega⟩ e5)
end
end K24
namespace K24
open PySem PySem.Spec PyProof.Rows L2 Evl Qt
def fL (by_ c : Nat) : Nat := 97 + ((c - 97) + by_) % 4
theorem idx_abcd {c : Nat} (h : c ∈ [97, 98, 99, 100]) : ∃ rest, Builtin.Str.occurrences (PySem.Str.ofString "abcd") ⟨#[c]⟩ 0 (PySem.Str.ofString "abcd").length 1 = (c - 97) :: rest := by
  simp only [List.mem_cons, List.not_mem_nil, or_false] at h
  rcases h with rfl | rfl | rfl | rfl
  · exact ⟨[], by decide +kernel⟩
  · exact ⟨[], by decide +kernel⟩
  · exact ⟨[], by decide +kernel⟩
  · exact ⟨[], by decide +kernel⟩
theorem at_abcd (k : Nat) : atI (PySem.Str.ofString "abcd").cps.toList ((k % 4 : Nat) : Int) = some (97 + k % 4) := by
  rw [show (PySem.Str.ofString "abcd").cps.toList = [97, 98, 99, 100] by decide +kernel]
  have : k % 4 < 4 := Nat.mod_lt _ (by decide)
  obtain ⟨j, hj⟩ : ∃ j, k % 4 = j := ⟨_, rfl⟩
  rw [hj] at this ⊢
  have h4 : j = 0 ∨ j = 1 ∨ j = 2 ∨ j = 3 := by omega
  rcases h4 with rfl | rfl | rfl | rfl <;> rfl
section
variable {K : PySem.W.Frag} {σ : L2.St} {H : Hp} {ta tb tc te to : TE}
theorem ev_index {z b : Str} {i : Nat} {rest : List Nat} (h0 : Ev to σ H (.str z)) (h : Ev te σ H (.str b)) (ho : Builtin.Str.occurrences z b 0 z.length 1 = i :: rest) : Ev (tM1 (fun x xs H Q => ∃ a b i rest, x = .str a ∧ xs = [.str b] ∧ Builtin.Str.occurrences a b 0 a.length 1 = i :: rest ∧ Q (.int (i : Nat)) H) to te) σ H (.int (i : Int)) := fun H1 e Q q =>
  h0 H1 e _ fun H2 e2 => ⟨⟨z, rfl⟩, h H2 (e.trans e2) _ fun H3 e3 => ⟨z, b, i, rest, rfl, rfl, ho, q H3 (e2.trans e3)⟩⟩
end
def spSee0 (K : PySem.W.Frag) (CK : Addr) : Sp := fun vs H Q _ => ∃ (t F L : Addr) (row m : Str) (zs : List Str) (z : Str), vs = [.ref t, .str z] ∧ TrkA CK H t F L row m zs ∧ zs.length ≤ 40 ∧ isLook m (.str z) = true ∧ (∀ H' L', Xr K t H H' → H L' = none → L' ≠ t → TrkA CK H' t F L' row m (zs ++ [z]) → Q (.int ((stM row m (zs ++ [z])).length : Int)) H')
theorem t_orF {ta tb : TT} {σ : L2.St} {H : Hp} {Q : Bool → Hp → Prop} (h : EvT ta σ H false) (k : ∀ H1, Ex H H1 → tb σ H1 Q) : tOr ta tb σ H Q := h H (Ex.refl H) _ fun H1 e => ite2 (fun q => by cases q) fun _ => k H1 e
theorem ev_lenT {CK : Addr} {te : TE} {σ : L2.St} {H : Hp} {t F L : Addr} {row m : Str} {zs : List Str} (h : Ev te σ H (.ref t)) (hT : TrkA CK H t F L row m zs) : Ev (tCB (rLenO CK (spTLen CK)) (tCons te tNil)) σ H (.int (zs.length : Int)) := fun H1 e Q q => h H1 e _ fun H2 e2 => by
  have hT2 := hT.ex (e.trans e2)
  obtain ⟨dx, ht, _, _, _, _, _, h50⟩ := id hT2
  exact ⟨t, dx, _, rfl, ht, t, F, L, row, m, zs, rfl, hT2, fun H3 e3 => ⟨zs.length, rfl, by omega, q H3 (e2.trans e3)⟩⟩
theorem see0 {P : Program} {w : World} {K : PySem.W.Frag} {mg : Str → Option Value} {base : Heap} {CK CV g : Addr} {n : Nat} {fd : FuncData} (F : FnOk P w K mg base (L2.CX P w) n g fd p_Tracker_see (spSee K CK CV)) : FnOk P w K mg base CX0 n g fd p_Tracker_see (spSee0 K CK) := Qt.calm F fun vs H Q E h => by
  obtain ⟨t, F, L, row, m, zs, z, rfl, hT, h40, hlk, q⟩ := h
  have hm : isMask m = true := by
    obtain ⟨_, _, _, _, _, hm, _⟩ := hT
    exact hm
  have l2 := isMask_len hm
  have l3 := open_len m
  have lz := look_len hlk
  exact ⟨t, F, L, row, m, zs, .str z, rfl, hT, h40, .str (by omega), fun h => (by rw [hlk] at h; cases h), fun z' e _ => by
    injection e with e
    subst e
    exact q⟩
theorem see0E {P : Program} {w : World} {K : PySem.W.Frag} {mg : Str → Option Value} {base : Heap} {CK CV : Addr} {n : Nat} (h : ∃ g fd, Meth K CK "see" g ∧ FnOk P w K mg base (L2.CX P w) n g fd p_Tracker_see (spSee K CK CV) ∧ L2.Binds K fd p_Tracker_see []) : ∃ g fd, Meth K CK "see" g ∧ FnOk P w K mg base CX0 n g fd p_Tracker_see (spSee0 K CK) ∧ L2.Binds K fd p_Tracker_see [] := by
  obtain ⟨g, fd, a, b, c⟩ := h
  exact ⟨g, fd, a, see0 b, c⟩
def tC1 (b c : Nat) : Nat := if c ∈ [97, 98, 99, 100] then fL b c else c
def tn (b : Nat) (z : Str) : Str := txt (z.cps.toList.map (tC1 b))
def spTurned : Sp := fun vs H Q _ => ∃ (z : Str) (b : Nat), vs = [.str z, .int (b : Int)] ∧ z.length ≤ 60 ∧ b ≤ 10 ∧ RetV (.str (tn b z)) H Q
def spCountC : Sp := fun vs H Q _ => ∃ (m : Str) (n k : Nat), vs = [.str m, .int (n : Int), .int (k : Int)] ∧ SmallM m n ∧ k ≤ 60 ∧ RetV (.int ((levM m n k).length : Int)) H Q
section
variable {P : Program} {w : World} {K : PySem.W.Frag} {mg : Str → Option Value} {base : Heap} {CM CV CG fG CK fK a_SMALL_WIDTH a_SMALL_SEEN : Addr}
theorem ok_turned (e : Ent K mg "_law_turned" s__law_turned p__law_turned) (T : Top K mg CM CV CG fG CK fK a_SMALL_WIDTH a_SMALL_SEEN) : Cal P w K mg base CX0 1 "_law_turned" p__law_turned spTurned := by
  obtain ⟨f, fd, F, m_, b_⟩ := e
  refine ⟨f, fd, F.ok sc__law_turned (fun vs H Q E h => ?_) (fun cdv A outer s H vs Q E hr h => ?_), m_, F.kp, b_⟩
  · obtain ⟨z, b, rfl, _⟩ := h
    rfl
  · obtain ⟨z, b, rfl, hz, hb, q⟩ := h
    refine ⟨_, (pss_one (ps_ret (pe_join pe_str (pe_lc (own := [("_law_sign", 2)]) (g := gName 2) (by rfl) sc__law_turned.nd (pi_str (pv 0)) (blkOk_by (own := [("_law_sign", 2)]) (N := n__law_turned) (sc := (defScope s__law_turned)) (by decide +kernel)) (fun _ _ _ _ _ => pg_name (i := 2) sc__law_turned.nd rfl (Or.inl rfl)) (fun _ _ _ _ _ => pts_nil) (fun _ _ _ _ _ => (pe_ifExp (pt_cmpR op_in_sign (pv 2) pe_str (by rfl)) (pe_ix ix_str pe_str (pe_op op_mod (pe_op op_add (pe_m1 PySem.F.slot_str_index PySem.F.type_str_index mt_sindex pe_str (pv 2)) (pv 1)) pe_int) (fun _ _ => rfl)) (pv 2))))))), ?_⟩
    refine s_ret (v := .str (tn b z)) (ev_join nil_l (l := z.cps.toList.map (tC1 b)) (el_is (el_lcS (z := z) (fun _ => true) (fun i => V.str ⟨#[tC1 b (z.cps.toList.getD i 0)]⟩) (ev_var rfl) (by omega) (fun _ => rfl) (fun i G e hi => et_yes) (fun i G e hi _ => ?_)) ?_) (by rw [List.length_map, len_l]; omega)) fun H1 e1 => q H1 e1
    · have hsg : sg z i = .str ⟨#[z.cps.toList.getD i 0]⟩ := rfl
      rw [hsg]
      generalize z.cps.toList.getD i 0 = c
      refine ev_if (b := decide (c ∈ [97, 98, 99, 100])) (et_test (ev_op (ev_var rfl) ev_c (rv_val fun H1 e Q q => ⟨c, _, rfl, rfl, by rw [show (PySem.Str.ofString "abcd").cps.toList = [97, 98, 99, 100] by decide +kernel]; exact q⟩))) (fun h => ?_) (fun h => ?_)
      · obtain ⟨rest, ho⟩ := idx_abcd (of_decide_eq_true h)
        unfold tC1
        rw [if_pos (of_decide_eq_true h)]
        refine ev_op (y := .int (((c - 97 + b) % 4 : Nat) : Int)) ev_c (ev_is (ev_op (ev_op (ev_index ev_c (ev_var rfl) ho) (ev_var rfl) rv_I0) ev_c (rv_I (show (0 : Int) < 4 by omega))) ?_) (rv_ixS (by decide +kernel) (at_abcd _))
        congr 1
      · unfold tC1
        rw [if_neg (of_decide_eq_false h)]
        exact ev_var rfl
    · rw [given_all, ← len_l, range_getD z.cps.toList fun c => V.str ⟨#[tC1 b c]⟩, List.map_map]
      rfl
theorem ok_countC (e : Ent K mg "count_rows" s_count_rows p_count_rows) (T : Top K mg CM CV CG fG CK fK a_SMALL_WIDTH a_SMALL_SEEN) (c1 : Cal P w K mg base CX0 4 "check_small" p_check_small spSmall) (c2 : Cal P w K mg base CX0 5 "check_number" p_check_number spNumC)
    (c3 : Cal P w K mg base CX0 8 "told_rows" p_told_rows spTold) : Cal P w K mg base CX0 9 "count_rows" p_count_rows spCountC := by
  obtain ⟨f, fd, F, m_, b_⟩ := e
  obtain ⟨f_check_small, fd_check_small, G_check_small, m_check_small, k_check_small, b_check_small⟩ := c1
  obtain ⟨f_check_number, fd_check_number, G_check_number, m_check_number, k_check_number, b_check_number⟩ := c2
  obtain ⟨f_told_rows, fd_told_rows, G_told_rows, m_told_rows, k_told_rows, b_told_rows⟩ := c3
  refine ⟨f, fd, F.ok sc_count_rows (fun vs H Q E h => ?_) (fun cdv A outer s H vs Q E hr h => ?_), m_, F.kp, b_⟩
  · obtain ⟨m, n, k, rfl, _⟩ := h
    rfl
  · obtain ⟨m, n, k, rfl, hsm, hk60, q⟩ := h
    refine ⟨_, (pss_cons (ps_expr (pe_call G_check_small (hr.mono (by decide)) (by rfl) m_check_small k_check_small b_check_small .nil pass0 (pa_cons (pv 0) (pa_cons (pv 1) pa_nil))))
      (pss_cons (ps_expr (pe_call G_check_number (hr.mono (by decide)) (by rfl) m_check_number k_check_number b_check_number .nil pass0 (pa_cons (pv 2) (pa_cons pe_int (pa_cons (pe_glob (v := .int 60) (by rfl) T.g_LONGEST.choose_spec ⟨_, rfl⟩) pa_nil)))))
      (pss_one (ps_ret (pe_callB call_len (by rfl) T.m_len (by decide +kernel) (pa_cons (pe_call G_told_rows (hr.mono (by decide)) (by rfl) m_told_rows k_told_rows b_told_rows .nil pass0 (pa_cons (pv 0) (pa_cons (pv 1) (pa_cons (pv 2) pa_nil)))) pa_nil)))))), ?_⟩
    refine q_drop (v := .non) (ev_call (ea_cons (ev_var rfl) (ea_cons (ev_var rfl) ea_nil)) fun G e Q q E => ⟨m, n, rfl, hsm, q⟩) fun H1 e1 => ?_
    refine q_drop (v := .non) (ev_call (ea_cons (ev_var rfl) (ea_cons ev_c (ea_cons ev_c ea_nil))) fun G e Q q E => ⟨(k : Int), 0, 60, rfl, by omega, by omega, q⟩) fun H2 e2 => ?_
    exact s_ret (ev_is (ev_lenL (K := K) (el_call (ea_cons (ev_var rfl) (ea_cons (ev_var rfl) (ea_cons (ev_var rfl) ea_nil))) fun G e Q q E => ⟨m, n, k, rfl, hsm, hk60, q⟩)) (by rw [tS_len])) fun H3 e3 => q H3 ((e1.trans e2).trans e3)
end
end K24
namespace K24
open PySem PySem.Spec PyProof.Rows L2 Evl Qt
def okB : V → Bool
  | .int _ => true
  | .str z => z.cps.toList.all fun c => decide (c < 256)
  | .bl _ => true
  | .non => true
  | _ => false
theorem okB_ok {v : V} (h : okB v = true) : okV v := by
  cases v with
  | str z =>
    intro c hc
    have := List.all_eq_true.mp h c hc
    exact of_decide_eq_true this
  | int i => exact trivial
  | bl b => exact trivial
  | non => exact trivial
  | _ => cases h
theorem okAll {xs : List V} (h : xs.all okB = true) : ∀ v ∈ xs, okV v := fun v hv => okB_ok (List.all_eq_true.mp h v hv)
theorem okAll2 {xss : List (List V)} (h : (xss.all fun x => x.all okB) = true) : ∀ x ∈ xss, ∀ v ∈ x, okV v := fun x hx => okAll (List.all_eq_true.mp h x hx)
section
variable {K : PySem.W.Frag} {σ : L2.St} {H : Hp} {te tb : TE} {t u : TT} {tr ta : TA} {sp : Sp} {dvs vs : List V} {E : XK}
theorem f_or (h1 : EvT t σ H false) (h2 : EvT u σ H false) : EvT (tOr t u) σ H false := et_is (et_or h1 fun _ => h2) rfl
theorem q_pass {tu tz : TS} {D : Ends} (h : EvT t σ H false) (k : ∀ H1, Ex H H1 → tz D σ H1) : tSeq (tIfS t tu tNext) tz D σ H := q_when h (fun h => by cases h) fun _ => k
theorem neX {d : PyData} (ha : EvX K te σ H d) (hb : EvX K tb σ H d) (s : SeqAt.shaped d = true) : EvT (tTest (tOp (rNeD K) te tb)) σ H false := et_test (ev_neX ha hb s)
theorem neV {x : V} (ha : Ev te σ H x) (s : scal x x = true) : EvT (tTest (tOp rNe te (tC x))) σ H false := et_is (et_test (ev_op ha ev_c (rv_ne s))) (by simp)
theorem rv_notN' {x : V} : RV (fun x y H Q => y = .non ∧ Q (.bl (!decide (x = .non))) H) x .non H (.bl (!decide (x = .non))) := fun H1 _ Q q => ⟨rfl, q H1 (Ex.refl H1)⟩
theorem nonX (ha : Ev te σ H .non) : EvT (tTest (tOp (fun x y H Q => y = .non ∧ Q (.bl (!decide (x = .non))) H) te (tC .non))) σ H false := et_is (et_test (ev_op ha ev_c rv_notN')) rfl
theorem xCallL {xs ys : List V} (h : EvA tr σ H vs) (hs : ∀ G, Ex H G → ∀ Q, RetL xs G Q → ∀ E, sp (vs ++ dvs) G Q E) (e : xs = ys) (k : ys.all okB = true) : EvX K (tCall sp dvs E tr) σ H (.list (ys.map datV)) := by
  subst e
  exact dx_callL h (okAll k) hs
theorem xCallT {xs ys : List (List V)} (h : EvA tr σ H vs) (hs : ∀ G, Ex H G → ∀ Q, RetT xs G Q → ∀ E, sp (vs ++ dvs) G Q E) (e : xs = ys) (k : (ys.all fun x => x.all okB) = true) : EvX K (tCall sp dvs E tr) σ H (dTups ys) := by
  subst e
  exact dx_callT h (okAll2 k) hs
theorem xCallV {x y : V} (h : EvA tr σ H vs) (hs : ∀ G, Ex H G → ∀ Q, RetV x G Q → ∀ E, sp (vs ++ dvs) G Q E) (e : x = y) (k : okB y = true) : EvX K (tCall sp dvs E tr) σ H (datV y) := by
  subst e
  exact dx_callV h (okB_ok k) hs
theorem xLit {ys : List V} (h : EvA ta σ H ys) (k : ys.all okB = true) (hl : ys.length ≤ 1000) : EvX K (tLst ta) σ H (.list (ys.map datV)) := dx_L (el_lst h (by omega)) (okAll k)
theorem xC {y : V} (k : okB y = true) : EvX K (tC y) σ H (datV y) := dx_ev ev_c (okB_ok k)
theorem vCall {x y : V} (h : EvA tr σ H vs) (hs : ∀ G, Ex H G → ∀ Q, RetV x G Q → ∀ E, sp (vs ++ dvs) G Q E) (e : x = y) : Ev (tCall sp dvs E tr) σ H y := by
  subst e
  exact ev_callV h hs
/-- a call that tells a list, against a list that is written out -/
theorem cL {xs ys : List V} (h : EvA tr σ H vs) (hs : ∀ G, Ex H G → ∀ Q, RetL xs G Q → ∀ E, sp (vs ++ dvs) G Q E) (hy : EvA ta σ H ys) (e : xs = ys) (k : ys.all okB = true) (hl : ys.length ≤ 1000) (s : SeqAt.shaped (.list (ys.map datV)) = true) : EvT (tTest (tOp (rNeD K) (tCall sp dvs E tr) (tLst ta))) σ H false := neX (xCallL h hs e k) (xLit hy k hl) s
theorem cLe {xs ys : List V} (h : EvA tr σ H vs) (hs : ∀ G, Ex H G → ∀ Q, RetL xs G Q → ∀ E, sp (vs ++ dvs) G Q E) (hy : EvA ta σ H ys) (e : xs = ys) (k : ys.all okB = true) (hl : ys.length ≤ 1000) (s : SeqAt.shaped (.list (ys.map datV)) = true) : Ev (tOp (rEqD K) (tCall sp dvs E tr) (tLst ta)) σ H (.bl true) := ev_eqX (xCallL h hs e k) (xLit hy k hl) s
/-- a call that tells one value, against a value that is written out -/
theorem cV1 {x y : V} (h : EvA tr σ H vs) (hs : ∀ G, Ex H G → ∀ Q, RetV x G Q → ∀ E, sp (vs ++ dvs) G Q E) (e : x = y) (s : scal y y = true) : EvT (tTest (tOp rNe (tCall sp dvs E tr) (tC y))) σ H false := neV (vCall h hs e) s
theorem cD {x y : V} (h : EvA tr σ H vs) (hs : ∀ G, Ex H G → ∀ Q, RetV x G Q → ∀ E, sp (vs ++ dvs) G Q E) (e : x = y) (k : okB y = true) (s : SeqAt.shaped (datV y) = true) : EvT (tTest (tOp (rNeD K) (tCall sp dvs E tr) (tC y))) σ H false := neX (xCallV h hs e k) (xC k) s
end
def mA : Str := PySem.Str.ofString "x.x"
def mB : Str := PySem.Str.ofString "xx.x"
def mC : Str := PySem.Str.ofString "xx"
theorem smA1 : SmallM mA 1 := by unfold SmallM mA; decide +kernel
theorem smA : SmallM mA 2 := by unfold SmallM mA; decide +kernel
theorem smB : SmallM mB 2 := by unfold SmallM mB; decide +kernel
theorem smC : SmallM mC 2 := by unfold SmallM mC; decide +kernel
theorem tpA1 : TopM mA 1 3 := by
  refine ⟨?_, ?_⟩ <;> (unfold mA; decide +kernel)
theorem tpA : TopM mA 2 6 := by
  refine ⟨?_, ?_⟩ <;> (unfold mA; decide +kernel)
theorem tpB : TopM mB 2 11 := by
  refine ⟨?_, ?_⟩ <;> (unfold mB; decide +kernel)
def lAAB : List Nat := (PySem.Str.ofString "aab").cps.toList
def lABBA : List Nat := (PySem.Str.ofString "abba").cps.toList
def lABABA : List Nat := (PySem.Str.ofString "ababa").cps.toList
theorem farA : TopF 1 mA 2 lAAB 2 := by
  refine ⟨?_, ?_⟩ <;> (unfold mA lAAB; decide +kernel)
theorem farB : TopF 1 mA 2 lABBA 2 := by
  refine ⟨?_, ?_⟩ <;> (unfold mA lABBA; decide +kernel)
theorem farC : ¬ Told mA lABABA := of_decide_eq_false (by
  rw [← views_told]
  unfold mA lABABA
  decide +kernel)
def mD : Str := PySem.Str.ofString "x..x"
theorem smD : SmallM mD 2 := by unfold SmallM mD; decide +kernel
theorem tpD : TopM mD 2 7 := by
  refine ⟨?_, ?_⟩ <;> (unfold mD; decide +kernel)
theorem tpC : TopM mC 2 5 := by
  refine ⟨?_, ?_⟩ <;> (unfold mC; decide +kernel)
theorem tp_is {m : Str} {n k : Nat} (a : SmallM m n) (b : TopM m n k) : tp m n = k := top_one (tp_top a) b
theorem lots_42 : lotsM 4 2 = [mC.cps.toList, mA.cps.toList, mD.cps.toList] := by
  unfold mA mC mD
  decide +kernel
theorem best_42 : bestM 4 2 2 = 7 := by
  unfold bestM
  rw [lots_42]
  simp only [List.map_cons, List.map_nil, ← str_txt]
  rw [tp_is smC tpC, tp_is smA tpA, tp_is smD tpD]
  decide +kernel
theorem bestL_42 : bestL 4 2 2 = [mD.cps.toList] := by
  unfold bestL
  rw [lots_42, best_42]
  simp only [List.filter, ← str_txt]
  rw [tp_is smC tpC, tp_is smA tpA, tp_is smD tpD]
  rfl
theorem lots_23 : lotsM 2 3 = [] := by decide +kernel
theorem best_23 : bestM 2 3 2 = 0 := by
  unfold bestM
  rw [lots_23]
  rfl
theorem bestL_23 : bestL 2 3 2 = [] := by
  unfold bestL
  rw [lots_23]
  rfl
theorem toldAAB : Told mA lAAB := of_decide_eq_true (by rw [← views_told]; unfold mA lAAB; decide +kernel)
theorem toldABBA : Told mA lABBA := of_decide_eq_true (by rw [← views_told]; unfold mA lABBA; decide +kernel)
theorem letAAB : LetIn 2 lAAB := by unfold LetIn lAAB; decide +kernel
theorem letABBA : LetIn 2 lABBA := by unfold LetIn lABBA; decide +kernel
theorem letABABA : LetIn 2 lABABA := by unfold LetIn lABABA; decide +kernel
theorem txL (z : Str) : V.str z = V.str (txt z.cps.toList) := by rw [← str_txt]
def lt (s : String) : V := .str (PySem.Str.ofString s)
def spYes : Sp := fun vs H Q _ => vs = [] ∧ RetV (.bl true) H Q
section
variable {P : Program} {w : World} {K : PySem.W.Frag} {mg : Str → Option Value} {base : Heap} {CM CV CG fG CK fK a_SMALL_WIDTH a_SMALL_SEEN : Addr}
theorem ok_lawlong (e : Ent K mg "_law_long" s__law_long p__law_long) (T : Top K mg CM CV CG fG CK fK a_SMALL_WIDTH a_SMALL_SEEN) (c1 : Cal P w K mg base CX0 10 "longest" p_longest spLongest) (c2 : Cal P w K mg base CX0 9 "longest_rows" p_longest_rows spLongRows) (c3 : Cal P w K mg base CX0 9 "count_rows" p_count_rows spCountC) (c4 : Cal P w K mg base CX0 7 "next_letters" p_next_letters spNext0)
    (c5 : Cal P w K mg base CX0 9 "farthest" p_farthest spFarthest0) (c6 : Cal P w K mg base CX0 5 "ring_views" p_ring_views spRing) (c7 : Cal P w K mg base CX0 6 "ring_tells" p_ring_tells spRingTells) (c8 : Cal P w K mg base CX0 9 "longest_ring" p_longest_ring spLRing) (c9 : Cal P w K mg base CX0 9 "full_rings" p_full_rings spFRings)
    (c10 : Cal P w K mg base CX0 11 "best_masks" p_best_masks spBest) (c11 : Cal P w K mg base CX0 7 "least_masks" p_least_masks spLeast0) : Cal P w K mg base CX0 12 "_law_long" p__law_long spYes := by
  obtain ⟨f, fd, F, m_, b_⟩ := e
  obtain ⟨f_longest, fd_longest, G_longest, m_longest, k_longest, b_longest⟩ := c1
  obtain ⟨f_longest_rows, fd_longest_rows, G_longest_rows, m_longest_rows, k_longest_rows, b_longest_rows⟩ := c2
  obtain ⟨f_count_rows, fd_count_rows, G_count_rows, m_count_rows, k_count_rows, b_count_rows⟩ := c3
  obtain ⟨f_next_letters, fd_next_letters, G_next_letters, m_next_letters, k_next_letters, b_next_letters⟩ := c4
  obtain ⟨f_farthest, fd_farthest, G_farthest, m_farthest, k_farthest, b_farthest⟩ := c5
  obtain ⟨f_ring_views, fd_ring_views, G_ring_views, m_ring_views, k_ring_views, b_ring_views⟩ := c6
  obtain ⟨f_ring_tells, fd_ring_tells, G_ring_tells, m_ring_tells, k_ring_tells, b_ring_tells⟩ := c7
  obtain ⟨f_longest_ring, fd_longest_ring, G_longest_ring, m_longest_ring, k_longest_ring, b_longest_ring⟩ := c8
  obtain ⟨f_full_rings, fd_full_rings, G_full_rings, m_full_rings, k_full_rings, b_full_rings⟩ := c9
  obtain ⟨f_best_masks, fd_best_masks, G_best_masks, m_best_masks, k_best_masks, b_best_masks⟩ := c10
  obtain ⟨f_least_masks, fd_least_masks, G_least_masks, m_least_masks, k_least_masks, b_least_masks⟩ := c11
  refine ⟨f, fd, F.ok sc__law_long (fun vs H Q E h => ?_) (fun cdv A outer s H vs Q E hr h => ?_), m_, F.kp, b_⟩
  · obtain ⟨rfl, _⟩ := h
    rfl
  · obtain ⟨rfl, q⟩ := h
    refine ⟨_, (pss_cons (ps_if (PW.pt (pw_or (pt_cmpR op_ne (pe_call G_longest (hr.mono (by decide)) (by rfl) m_longest k_longest b_longest .nil pass0 (pa_cons pe_str (pa_cons pe_int pa_nil))) pe_int (nomark _)) (pw_or1 (pt_cmpR (op_neD hr.units) (pe_call G_longest_rows (hr.mono (by decide)) (by rfl) m_longest_rows k_longest_rows b_longest_rows .nil pass0 (pa_cons pe_str (pa_cons pe_int pa_nil))) (pe_lst (pa_cons pe_str (pa_cons pe_str (pa_cons pe_str (pa_cons pe_str pa_nil))))) (nomark _))))) (pss_one (ps_ret pe_bl)) pss_nil)
      (pss_cons (ps_if (PW.pt (pw_or (pt_cmpR op_ne (pe_call G_count_rows (hr.mono (by decide)) (by rfl) m_count_rows k_count_rows b_count_rows .nil pass0 (pa_cons pe_str (pa_cons pe_int (pa_cons pe_int pa_nil)))) pe_int (nomark _)) (pw_or (pt_cmpR op_ne (pe_call G_longest (hr.mono (by decide)) (by rfl) m_longest k_longest b_longest .nil pass0 (pa_cons pe_str (pa_cons pe_int pa_nil))) pe_int (nomark _)) (pw_or1 (pt_cmpR op_ne (pe_call G_longest (hr.mono (by decide)) (by rfl) m_longest k_longest b_longest .nil pass0 (pa_cons pe_str (pa_cons pe_int pa_nil))) pe_int (nomark _)))))) (pss_one (ps_ret pe_bl)) pss_nil)
      (pss_cons (ps_if (PW.pt (pw_or (pt_cmpR op_ne (pe_call G_next_letters (hr.mono (by decide)) (by rfl) m_next_letters k_next_letters b_next_letters .nil pass0 (pa_cons pe_str (pa_cons pe_str (pa_cons pe_int pa_nil)))) pe_str (nomark _)) (pw_or (pt_cmpR (op_neD hr.units) (pe_call G_farthest (hr.mono (by decide)) (by rfl) m_farthest k_farthest b_farthest .nil pass0 (pa_cons pe_str (pa_cons pe_str (pa_cons pe_int pa_nil)))) pe_int (nomark _)) (pw_or1 (pt_cmpR (op_neD hr.units) (pe_call G_farthest (hr.mono (by decide)) (by rfl) m_farthest k_farthest b_farthest .nil pass0 (pa_cons pe_str (pa_cons pe_str (pa_cons pe_int pa_nil)))) pe_int (nomark _)))))) (pss_one (ps_ret pe_bl)) pss_nil)
      (pss_cons (ps_if (PW.pt (pw_or (pt_cmpR op_notN (pe_call G_farthest (hr.mono (by decide)) (by rfl) m_farthest k_farthest b_farthest .nil pass0 (pa_cons pe_str (pa_cons pe_str (pa_cons pe_int pa_nil)))) pe_non (nomark _)) (pw_or1 (pt_cmpR (op_neD hr.units) (pe_call G_ring_views (hr.mono (by decide)) (by rfl) m_ring_views k_ring_views b_ring_views .nil pass0 (pa_cons pe_str (pa_cons pe_str pa_nil))) (pe_lst (pa_cons pe_str (pa_cons pe_str (pa_cons pe_str pa_nil)))) (nomark _))))) (pss_one (ps_ret pe_bl)) pss_nil)
      (pss_cons (ps_if (PW.pt (pw_or (pt_not (pt_val (pe_call G_ring_tells (hr.mono (by decide)) (by rfl) m_ring_tells k_ring_tells b_ring_tells .nil pass0 (pa_cons pe_str (pa_cons pe_str pa_nil))))) (pw_or (pt_cmpR op_ne (pe_call G_longest_ring (hr.mono (by decide)) (by rfl) m_longest_ring k_longest_ring b_longest_ring .nil pass0 (pa_cons pe_str (pa_cons pe_int pa_nil))) pe_str (nomark _)) (pw_or1 (pt_cmpR op_ne (pe_call G_longest_ring (hr.mono (by decide)) (by rfl) m_longest_ring k_longest_ring b_longest_ring .nil pass0 (pa_cons pe_str (pa_cons pe_int pa_nil))) pe_str (nomark _)))))) (pss_one (ps_ret pe_bl)) pss_nil)
      (pss_cons (ps_if (PW.pt (pw_or (pt_cmpR (op_neD hr.units) (pe_call G_full_rings (hr.mono (by decide)) (by rfl) m_full_rings k_full_rings b_full_rings .nil pass0 (pa_cons pe_str (pa_cons pe_int pa_nil))) (pe_lst (pa_cons pe_str pa_nil)) (nomark _)) (pw_or (pt_cmpR (op_neD hr.units) (pe_call G_full_rings (hr.mono (by decide)) (by rfl) m_full_rings k_full_rings b_full_rings .nil pass0 (pa_cons pe_str (pa_cons pe_int pa_nil))) (pe_lst pa_nil) (nomark _)) (pw_or1 (pt_cmpR (op_neD hr.units) (pe_call G_ring_views (hr.mono (by decide)) (by rfl) m_ring_views k_ring_views b_ring_views .nil pass0 (pa_cons pe_str (pa_cons pe_str pa_nil))) (pe_lst (pa_cons pe_str (pa_cons pe_str pa_nil))) (nomark _)))))) (pss_one (ps_ret pe_bl)) pss_nil)
      (pss_cons (ps_if (PW.pt (pw_or (pt_cmpR (op_neD hr.units) (pe_call G_best_masks (hr.mono (by decide)) (by rfl) m_best_masks k_best_masks b_best_masks .nil pass0 (pa_cons pe_int (pa_cons pe_int (pa_cons pe_int pa_nil)))) (pe_tup (pa_cons pe_int (pa_cons (pe_lst (pa_cons pe_str pa_nil)) pa_nil))) (nomark _)) (pw_or1 (pt_cmpR (op_neD hr.units) (pe_call G_best_masks (hr.mono (by decide)) (by rfl) m_best_masks k_best_masks b_best_masks .nil pass0 (pa_cons pe_int (pa_cons pe_int (pa_cons pe_int pa_nil)))) (pe_tup (pa_cons pe_int (pa_cons (pe_lst pa_nil) pa_nil))) (nomark _))))) (pss_one (ps_ret pe_bl)) pss_nil)
      (pss_one (ps_ret (pe_and (pe_cmpR (op_eqD hr.units) (pe_call G_least_masks (hr.mono (by decide)) (by rfl) m_least_masks k_least_masks b_least_masks .nil pass0 (pa_cons pe_str (pa_cons pe_int pa_nil))) (pe_lst (pa_cons pe_str pa_nil)) (nomark _)) (pe_and (pe_cmpR (op_eqD hr.units) (pe_call G_least_masks (hr.mono (by decide)) (by rfl) m_least_masks k_least_masks b_least_masks .nil pass0 (pa_cons pe_str (pa_cons pe_int pa_nil))) (pe_lst pa_nil) (nomark _)) (pe_one (pe_cmpR (op_eqD hr.units) (pe_call G_least_masks (hr.mono (by decide)) (by rfl) m_least_masks k_least_masks b_least_masks .nil pass0 (pa_cons pe_str (pa_cons pe_int pa_nil))) (pe_lst (pa_cons pe_str pa_nil)) (nomark _)))))))))))))), ?_⟩
    have a2 : ∀ {σ : L2.St} {H : Hp} {x y : V}, EvA (tCons (tC x) (tCons (tC y) tNil)) σ H [x, y] := ea_cons ev_c (ea_cons ev_c ea_nil)
    have a3 : ∀ {σ : L2.St} {H : Hp} {x y z : V}, EvA (tCons (tC x) (tCons (tC y) (tCons (tC z) tNil))) σ H [x, y, z] := ea_cons ev_c (ea_cons ev_c (ea_cons ev_c ea_nil))
    have long : ∀ {m : Str} {n k : Nat}, SmallM m n → TopM m n k → ∀ {G : Hp} {Q : VK} {E : XK}, RetV (.int (k : Int)) G Q → spLongest [.str m, .int (n : Int)] G Q E := fun hs ht G Q E q => ⟨_, _, rfl, hs, fun k' hk' => by rw [top_one hk' ht]; exact q⟩
    have far : ∀ {r : List Nat} {m : Str} {n k : Nat}, SmallM m n → LetIn n r → r.length ≤ 60 → TopF 1 m n r k → Told m r → ∀ {G : Hp} {Q : VK} {E : XK}, RetV (.int ((r.length + k : Nat) : Int)) G Q → spFarthest0 [.str (txt r), .str m, .int (n : Int)] G Q E := fun hs hi hl ht htd G Q E q => ⟨_, _, _, rfl, hs, hi, hl, fun h => absurd htd h, fun k' _ hk' => by rw [topF_one hk' ht]; exact q⟩
    refine q_pass (f_or (cV1 (y := .int 6) a2 (fun G e Q q E => long (n := 2) smA tpA q) rfl rfl) (cL a2 (fun G e Q q E => ⟨mA, 2, rfl, smA, fun k' hk' => by rw [top_one hk' tpA]; exact q⟩) (ea_cons ev_c (ea_cons ev_c (ea_cons ev_c (ea_cons ev_c ea_nil)))) (by decide +kernel) (by decide +kernel) (by decide) (by decide +kernel))) fun H1 e1 => ?_
    refine q_pass (f_or (cV1 (y := .int 12) a3 (fun G e Q q E => ⟨mA, 2, 5, rfl, smA, by decide, q⟩) (by decide +kernel) rfl) (f_or (cV1 (y := .int 11) a2 (fun G e Q q E => long (n := 2) smB tpB q) rfl rfl) (cV1 (y := .int 3) a2 (fun G e Q q E => long (n := 1) smA1 tpA1 q) rfl rfl))) fun H2 e2 => ?_
    have a3x : ∀ {σ : L2.St} {H : Hp} {z : Str} {y u : V}, EvA (tCons (tC (.str z)) (tCons (tC y) (tCons (tC u) tNil))) σ H [.str (txt z.cps.toList), y, u] := fun {σ H z y u} => ea_cons (ev_is ev_c (txL z)) (ea_cons ev_c (ea_cons ev_c ea_nil))
    refine q_pass (f_or (cV1 (y := lt "a") a3x (fun G e Q q E => ⟨(PySem.Str.ofString "ababb").cps.toList, mA, 2, rfl, smA.1, by omega, by omega, by unfold LetIn; decide +kernel, by decide +kernel, q⟩) (by decide +kernel) rfl)
      (f_or (cD (y := .int 5) a3x (fun G e Q q E => far (r := lAAB) (n := 2) smA letAAB (by decide +kernel) farA toldAAB q) (by decide +kernel) rfl (by decide +kernel)) (cD (y := .int 6) a3x (fun G e Q q E => far (r := lABBA) (n := 2) smA letABBA (by decide +kernel) farB toldABBA q) (by decide +kernel) rfl (by decide +kernel)))) fun H3 e3 => ?_
    refine q_pass (f_or (nonX (ev_callV a3x (fun G e Q q E => ⟨lABABA, mA, 2, rfl, smA, letABABA, by decide +kernel, fun _ => q, fun _ h => absurd h farC⟩))) (cL a2 (fun G e Q q E => ⟨PySem.Str.ofString "aab", mA, rfl, by decide +kernel, by decide +kernel, smA.1, q⟩) (ea_cons ev_c (ea_cons ev_c (ea_cons ev_c ea_nil))) (by decide +kernel) (by decide +kernel) (by decide) (by decide +kernel))) fun H4 e4 => ?_
    refine q_pass (f_or (et_is (et_not (et_B (vCall (y := .bl true) a2 (fun G e Q q E => ⟨PySem.Str.ofString "aab", mA, rfl, by decide +kernel, by decide +kernel, smA.1, q⟩) (by decide +kernel)))) rfl)
      (f_or (cV1 (y := lt "aab") a2 (fun G e Q q E => ⟨mA, 2, rfl, smA, q⟩) (by decide +kernel) rfl) (cV1 (y := lt "aaababb") a2 (fun G e Q q E => ⟨mB, 2, rfl, smB, q⟩) (by decide +kernel) rfl))) fun H5 e5 => ?_
    refine q_pass (f_or (cL a2 (fun G e Q q E => ⟨mC, 2, rfl, smC, q⟩) (ea_cons ev_c ea_nil) (by decide +kernel) (by decide +kernel) (by decide) (by decide +kernel))
      (f_or (cL a2 (fun G e Q q E => ⟨mA, 2, rfl, smA, q⟩) ea_nil (by decide +kernel) (by decide +kernel) (by decide) (by decide +kernel)) (cL a2 (fun G e Q q E => ⟨PySem.Str.ofString "ab", mA, rfl, by decide +kernel, by decide +kernel, smA.1, q⟩) (ea_cons ev_c (ea_cons ev_c ea_nil)) (by decide +kernel) (by decide +kernel) (by decide) (by decide +kernel)))) fun H6 e6 => ?_
    have best : ∀ {σ : L2.St} {H : Hp} {k wd b : Nat} {l : List (List Nat)}, 1 ≤ k → 1 ≤ wd → wd ≤ SW 2 → k ≤ SS 2 → bestM wd k 2 = b → bestL wd k 2 = l → (tS l).all okB = true → EvX K (tCall spBest [] E0 (tCons (tC (.int (k : Int))) (tCons (tC (.int (wd : Int))) (tCons (tC (.int (2 : Int))) tNil)))) σ H (.tuple [.int (b : Int), .list ((tS l).map datV)]) := fun h1 h2 h3 h4 hb hl ho H1 e Q q =>
      a3 H1 e _ fun H2 e2 => ⟨_, _, 2, rfl, h1, h2, by omega, by omega, h3, h4, fun p L H' e' hL hp => q _ _ (e2.trans e') (.tup (st_of hp) (.cons (by rw [hb]; exact .int _) (.cons (.lst (sq_of hL) (by rw [hl]; exact dp_flats (okAll ho))) .nil)))⟩
    refine q_pass (f_or (neX (best (k := 2) (wd := 4) (b := 7) (by omega) (by omega) (by decide) (by decide) best_42 bestL_42 (by decide +kernel)) (dx_tup (dx_cons (xC (y := .int 7) rfl) (dx_cons (xLit (ea_cons ev_c ea_nil) (by decide +kernel) (by decide)) dx_nil)) (show 2 ≤ 1000 by decide)) (by decide +kernel))
      (neX (best (k := 3) (wd := 2) (b := 0) (by omega) (by omega) (by decide) (by decide) best_23 bestL_23 (by decide +kernel)) (dx_tup (dx_cons (xC (y := .int 0) rfl) (dx_cons (xLit ea_nil (by decide +kernel) (by decide)) dx_nil)) (show 2 ≤ 1000 by decide)) (by decide +kernel))) fun H7 e7 => ?_
    refine s_ret (v := .bl true) (ev_is (ev_andV (a := true) (b := true && true) (cLe a2 (fun G e Q q E => ⟨PySem.Str.ofString "abbab", 3, rfl, by decide +kernel, by omega, by omega, q⟩) (ea_cons ev_c ea_nil) (by decide +kernel) (by decide +kernel) (by decide) (by decide +kernel)) fun _ => ev_andV (cLe a2 (fun G e Q q E => ⟨PySem.Str.ofString "aaa", 2, rfl, by decide +kernel, by omega, by omega, q⟩) ea_nil (by decide +kernel) (by decide +kernel) (by decide) (by decide +kernel)) fun _ => cLe a2 (fun G e Q q E => ⟨PySem.Str.ofString "ab", 1, rfl, by decide +kernel, by omega, by omega, q⟩) (ea_cons ev_c ea_nil) (by decide +kernel) (by decide +kernel) (by decide) (by decide +kernel)) rfl) fun H8 e8 => q H8 (((((((e1.trans e2).trans e3).trans e4).trans e5).trans e6).trans e7).trans e8)
end
end K24
namespace K24
open PySem PySem.Spec PyProof.Rows L2 Evl Qt
theorem range_gs (l : List Str) (F : Str → V) : (List.range l.length).map (fun i => F (l.getD i PySem.Str.empty)) = l.map F := by
  apply List.ext_getElem
  · simp
  · intro i h1 h2
    simp [List.getD_eq_getElem?_getD, List.getElem?_eq_getElem (show i < l.length by simpa using h2)]
section
variable {K : PySem.W.Frag} {σ : L2.St} {H : Hp}
theorem q_par2 {i j : Nat} {ta : TA} {v w : V} {tz : TS} {D : Ends} (h : EvA ta σ H [v, w]) (k : ∀ H1, Ex H H1 → tz D ((σ.set i (some v)).set j (some w)) H1) : tSeq (tPar i j ta) tz D σ H := h H (Ex.refl H) _ fun H1 e => ⟨v, w, rfl, k H1 e⟩
theorem ev_turn {te tb : TE} {z : Str} {b : Nat} (h : Ev te σ H (.str z)) (h2 : Ev tb σ H (.int (b : Int))) (hz : z.length ≤ 60) (hb : b ≤ 10) : Ev (tCall spTurned [] E0 (tCons te (tCons tb tNil))) σ H (.str (tn b z)) := ev_callV (ea_cons h (ea_cons h2 ea_nil)) fun G e Q q E => ⟨z, b, rfl, hz, hb, q⟩
theorem el_turned {ta : TA} {zs : List Str} {b j : Nat} {vs : List Nat} (h : EvA ta σ H (zs.map V.str)) (hl : zs.length ≤ 1000) (hz : ∀ z ∈ zs, z.length ≤ 60) (hb : b ≤ 10) (hw : ∀ x, wipe ((wipe σ vs).set j (some x)) vs = wipe σ vs)
    (hj : ∀ x, ((wipe σ vs).set j (some x))[j]? = some (some x)) (h0 : ∀ x, ((wipe σ vs).set j (some x))[0]? = some (some (.int (b : Int)))) :
    EvL (tLc (iList K (tLst ta)) (gName j) tYes (tCall spTurned [] E0 (tCons (tVar j) (tCons (tVar 0) tNil))) vs) σ H ((zs.map (tn b)).map V.str) := by
  have L := el_lcNL (K := K) (te := tCall spTurned [] E0 (tCons (tVar j) (tCons (tVar 0) tNil))) (fun _ => true) (fun i => V.str (tn b (zs.getD i PySem.Str.empty))) (el_lst h (by rw [List.length_map]; omega)) (by rw [List.length_map]; omega) hw (fun _ _ _ _ _ => et_yes) (fun i x H1 e hx _ => by
    rw [List.getElem?_map] at hx
    cases hi : zs[i]? with
    | none => rw [hi] at hx; cases hx
    | some z =>
      rw [hi] at hx
      obtain rfl := Option.some.inj hx
      rw [List.getD_eq_getElem?_getD, hi]
      exact ev_turn (ev_var (hj _)) (ev_var (h0 _)) (hz z (List.mem_of_getElem? hi)) hb)
  rw [given_all, List.length_map, range_gs zs fun z => V.str (tn b z)] at L
  rw [List.map_map]
  exact L
end
def sG : Str := PySem.Str.ofString "abbab"
def sB : Str := PySem.Str.ofString "ababa"
def s3 : List Str := [PySem.Str.ofString "ab", PySem.Str.ofString "ba", PySem.Str.ofString "bb"]
def s3V (b : Nat) : List V := (s3.map (tn b)).map V.str
theorem rowG : ∀ b, b < 4 → isRow (tn b sG) = true := by unfold sG; decide +kernel
theorem rowB : ∀ b, b < 4 → isRow (tn b sB) = true := by unfold sB; decide +kernel
theorem v3_views : ∀ b, b < 4 → (viewsM (tn b sG) mA).map V.str = s3V b := by unfold sG mA s3V s3; decide +kernel
theorem v3_ok : ∀ b, b < 4 → (s3V b).all okB = true := by unfold s3V s3; decide +kernel
theorem v3_sh : ∀ b, b < 4 → SeqAt.shaped (.list ((s3V b).map datV)) = true := by unfold s3V s3; decide +kernel
theorem gB : ∀ b, b < 4 → groupsM (tn b sB) mA = [[.int 0, .int 2]] := by unfold sB mA; decide +kernel
theorem gG : ∀ b, b < 4 → groupsM (tn b sG) mA = [] := by unfold sG mA; decide +kernel
theorem tG : ∀ b, b < 4 → decide (viewsM (tn b sG) mA).Nodup = true := by unfold sG mA; decide +kernel
theorem dG : ∀ b, b < 4 → minV (distL (tn b sG) mA) = .int 1 := by unfold sG mA; decide +kernel
theorem st01 : ∀ b, b < 4 → standB (distL (tn b sG) mA) (2 * ((0 : Nat) : Int) + ((1 : Nat) : Int)) = false := by unfold sG mA; decide +kernel
theorem st00 : ∀ b, b < 4 → standB (distL (tn b sG) mA) (2 * ((0 : Nat) : Int) + ((0 : Nat) : Int)) = true := by unfold sG mA; decide +kernel
theorem f1 : ∀ b, b < 4 → natsV (nearM (tn b sG) mA (tn b (PySem.Str.ofString "b?")) 0) = [.int 1, .int 2] := by unfold sG mA; decide +kernel
theorem f2 : ∀ b, b < 4 → natsV (nearM (tn b sG) mA (tn b (PySem.Str.ofString "aa")) 0) = [] := by unfold sG mA; decide +kernel
theorem f3 : ∀ b, b < 4 → natsV (nearM (tn b sG) mA (tn b (PySem.Str.ofString "aa")) 1) = [.int 0, .int 1] := by unfold sG mA; decide +kernel
theorem lk1 : ∀ b, b < 4 → isLook mA (.str (tn b (PySem.Str.ofString "b?"))) = true := by unfold mA; decide +kernel
theorem lk2 : ∀ b, b < 4 → isLook mA (.str (tn b (PySem.Str.ofString "aa"))) = true := by unfold mA; decide +kernel
theorem nB : ∀ b, b < 4 → optV (neededM (viewsM (tn b sB) mA) 1) = .int 2 := by unfold sB mA; decide +kernel
def spBy : Sp := fun vs H Q _ => ∃ b : Nat, vs = [.int (b : Int)] ∧ b < 4 ∧ RetV (.bl true) H Q
section
variable {P : Program} {w : World} {K : PySem.W.Frag} {mg : Str → Option Value} {base : Heap} {CM CV CG fG CK fK a_SMALL_WIDTH a_SMALL_SEEN : Addr}
theorem ok_lawviewed (e : Ent K mg "_law_viewed" s__law_viewed p__law_viewed) (T : Top K mg CM CV CG fG CK fK a_SMALL_WIDTH a_SMALL_SEEN) (c1 : Cal P w K mg base CX0 4 "seen" p_seen (spSeen0 K)) (c2 : Cal P w K mg base CX0 6 "together" p_together (spTog0 K)) (c3 : Cal P w K mg base CX0 1 "_law_turned" p__law_turned spTurned) (c4 : Cal P w K mg base CX0 5 "views" p_views spViews)
    (c5 : Cal P w K mg base CX0 6 "tells" p_tells spTells) (c6 : Cal P w K mg base CX0 6 "alike" p_alike spAlike) (c7 : Cal P w K mg base CX0 6 "groups" p_groups spGroups) (c8 : Cal P w K mg base CX0 6 "distance" p_distance spDist) (c9 : Cal P w K mg base CX0 7 "stands" p_stands spStandsG)
    (c10 : Cal P w K mg base CX0 7 "find" p_find spFind0) (c11 : Cal P w K mg base CX0 6 "near" p_near spNear0) (c12 : Cal P w K mg base CX0 6 "steps_needed" p_steps_needed spStepsN) : Cal P w K mg base CX0 8 "_law_viewed" p__law_viewed spBy := by
  obtain ⟨f, fd, F, m_, b_⟩ := e
  obtain ⟨f_seen, fd_seen, G_seen, m_seen, k_seen, b_seen⟩ := c1
  obtain ⟨f_together, fd_together, G_together, m_together, k_together, b_together⟩ := c2
  obtain ⟨f__law_turned, fd__law_turned, G__law_turned, m__law_turned, k__law_turned, b__law_turned⟩ := c3
  obtain ⟨f_views, fd_views, G_views, m_views, k_views, b_views⟩ := c4
  obtain ⟨f_tells, fd_tells, G_tells, m_tells, k_tells, b_tells⟩ := c5
  obtain ⟨f_alike, fd_alike, G_alike, m_alike, k_alike, b_alike⟩ := c6
  obtain ⟨f_groups, fd_groups, G_groups, m_groups, k_groups, b_groups⟩ := c7
  obtain ⟨f_distance, fd_distance, G_distance, m_distance, k_distance, b_distance⟩ := c8
  obtain ⟨f_stands, fd_stands, G_stands, m_stands, k_stands, b_stands⟩ := c9
  obtain ⟨f_find, fd_find, G_find, m_find, k_find, b_find⟩ := c10
  obtain ⟨f_near, fd_near, G_near, m_near, k_near, b_near⟩ := c11
  obtain ⟨f_steps_needed, fd_steps_needed, G_steps_needed, m_steps_needed, k_steps_needed, b_steps_needed⟩ := c12
  refine ⟨f, fd, F.ok sc__law_viewed (fun vs H Q E h => ?_) (fun cdv A outer s H vs Q E hr h => ?_), m_, F.kp, b_⟩
  · obtain ⟨b, rfl, _⟩ := h
    rfl
  · obtain ⟨b, rfl, hb, q⟩ := h
    refine ⟨_, (pss_cons (ps_if (PW.pt (pw_or (pt_cmpR (op_neD hr.units) (pe_call G_seen (hr.mono (by decide)) (by rfl) m_seen k_seen b_seen .nil pass0 (pa_cons pe_str pa_nil)) (pe_lst (pa_cons pe_int (pa_cons pe_int (pa_cons pe_int pa_nil)))) (nomark _)) (pw_or (pt_cmpR op_ne (pe_call G_together (hr.mono (by decide)) (by rfl) m_together k_together b_together .nil pass0 (pa_cons pe_str (pa_cons pe_str (pa_cons pe_int pa_nil)))) pe_str (nomark _)) (pw_or1 (pt_cmpR op_ne (pe_call G_together (hr.mono (by decide)) (by rfl) m_together k_together b_together .nil pass0 (pa_cons pe_str (pa_cons pe_str (pa_cons pe_int pa_nil)))) pe_str (nomark _)))))) (pss_one (ps_ret pe_bl)) pss_nil)
      (pss_cons (ps_par (i := 1) (j := 2) (by rfl) sc__law_viewed.nd rfl rfl (by decide) rfl rfl (pa_cons (pe_call G__law_turned (hr.mono (by decide)) (by rfl) m__law_turned k__law_turned b__law_turned .nil pass0 (pa_cons pe_str (pa_cons (pv 0) pa_nil))) (pa_cons (pe_call G__law_turned (hr.mono (by decide)) (by rfl) m__law_turned k__law_turned b__law_turned .nil pass0 (pa_cons pe_str (pa_cons (pv 0) pa_nil))) pa_nil)) (by rfl))
      (pss_cons (ps_if (PW.pt (pw_or (pt_cmpR (op_neD hr.units) (pe_call G_views (hr.mono (by decide)) (by rfl) m_views k_views b_views .nil pass0 (pa_cons (pv 1) (pa_cons pe_str pa_nil))) (pe_lc (own := [("_law_view", 3)]) (g := gName 3) (by rfl) sc__law_viewed.nd (pi_list (pe_lst (pa_cons pe_str (pa_cons pe_str (pa_cons pe_str pa_nil))))) (blkOk_by (own := [("_law_view", 3)]) (N := n__law_viewed) (sc := (defScope s__law_viewed)) (by decide +kernel)) (fun _ _ _ _ _ => pg_name (i := 3) sc__law_viewed.nd rfl (Or.inl rfl)) (fun _ _ _ _ _ => pts_nil) (fun _ _ _ _ _ => (pe_call G__law_turned (hr.mono (by decide)) (by rfl) m__law_turned k__law_turned b__law_turned .nil pass0 (pa_cons (pv 3) (pa_cons (pv 0) pa_nil))))) (nomark _)) (pw_or1 (pt_not (pt_val (pe_call G_tells (hr.mono (by decide)) (by rfl) m_tells k_tells b_tells .nil pass0 (pa_cons (pv 1) (pa_cons pe_str pa_nil)))))))) (pss_one (ps_ret pe_bl)) pss_nil)
      (pss_cons (ps_if (PW.pt (pw_or (pt_cmpR (op_neD hr.units) (pe_call G_alike (hr.mono (by decide)) (by rfl) m_alike k_alike b_alike .nil pass0 (pa_cons (pv 2) (pa_cons pe_str pa_nil))) (pe_tup (pa_cons pe_int (pa_cons pe_int pa_nil))) (nomark _)) (pw_or (pt_cmpR (op_neD hr.units) (pe_call G_groups (hr.mono (by decide)) (by rfl) m_groups k_groups b_groups .nil pass0 (pa_cons (pv 2) (pa_cons pe_str pa_nil))) (pe_lst (pa_cons (pe_tup (pa_cons pe_int (pa_cons pe_int pa_nil))) pa_nil)) (nomark _)) (pw_or1 (pt_cmpR (op_neD hr.units) (pe_call G_distance (hr.mono (by decide)) (by rfl) m_distance k_distance b_distance .nil pass0 (pa_cons (pv 1) (pa_cons pe_str pa_nil))) pe_int (nomark _)))))) (pss_one (ps_ret pe_bl)) pss_nil)
      (pss_cons (ps_if (PW.pt (pw_or (pt_val (pe_call G_stands (hr.mono (by decide)) (by rfl) m_stands k_stands b_stands .nil pass0 (pa_cons (pv 1) (pa_cons pe_str (pa_cons pe_int (pa_cons pe_int pa_nil)))))) (pw_or (pt_cmpR (op_neD hr.units) (pe_call G_views (hr.mono (by decide)) (by rfl) m_views k_views b_views .nil pass0 (pa_cons pe_str (pa_cons pe_str pa_nil))) (pe_lst pa_nil) (nomark _)) (pw_or1 (pt_cmpR op_notN (pe_call G_distance (hr.mono (by decide)) (by rfl) m_distance k_distance b_distance .nil pass0 (pa_cons pe_str (pa_cons pe_str pa_nil))) pe_non (nomark _)))))) (pss_one (ps_ret pe_bl)) pss_nil)
      (pss_cons (ps_if (PW.pt (pw_or (pt_not (pt_val (pe_call G_stands (hr.mono (by decide)) (by rfl) m_stands k_stands b_stands .nil pass0 (pa_cons pe_str (pa_cons pe_str (pa_cons pe_int (pa_cons pe_int pa_nil))))))) (pw_or (pt_cmpR op_notN (pe_call G_alike (hr.mono (by decide)) (by rfl) m_alike k_alike b_alike .nil pass0 (pa_cons (pv 1) (pa_cons pe_str pa_nil))) pe_non (nomark _)) (pw_or1 (pt_not (pt_val (pe_call G_stands (hr.mono (by decide)) (by rfl) m_stands k_stands b_stands .nil pass0 (pa_cons (pv 1) (pa_cons pe_str (pa_cons pe_int (pa_cons pe_int pa_nil))))))))))) (pss_one (ps_ret pe_bl)) pss_nil)
      (pss_cons (ps_if (PW.pt (pw_or (pt_cmpR (op_neD hr.units) (pe_call G_find (hr.mono (by decide)) (by rfl) m_find k_find b_find .nil pass0 (pa_cons (pv 1) (pa_cons pe_str (pa_cons (pe_call G__law_turned (hr.mono (by decide)) (by rfl) m__law_turned k__law_turned b__law_turned .nil pass0 (pa_cons pe_str (pa_cons (pv 0) pa_nil))) pa_nil)))) (pe_lst (pa_cons pe_int (pa_cons pe_int pa_nil))) (nomark _)) (pw_or1 (pt_cmpR (op_neD hr.units) (pe_call G_find (hr.mono (by decide)) (by rfl) m_find k_find b_find .nil pass0 (pa_cons (pv 1) (pa_cons pe_str (pa_cons (pe_call G__law_turned (hr.mono (by decide)) (by rfl) m__law_turned k__law_turned b__law_turned .nil pass0 (pa_cons pe_str (pa_cons (pv 0) pa_nil))) pa_nil)))) (pe_lst pa_nil) (nomark _))))) (pss_one (ps_ret pe_bl)) pss_nil)
      (pss_cons (ps_if (PW.pt (pw_or (pt_cmpR (op_neD hr.units) (pe_call G_near (hr.mono (by decide)) (by rfl) m_near k_near b_near .nil pass0 (pa_cons (pv 1) (pa_cons pe_str (pa_cons (pe_call G__law_turned (hr.mono (by decide)) (by rfl) m__law_turned k__law_turned b__law_turned .nil pass0 (pa_cons pe_str (pa_cons (pv 0) pa_nil))) (pa_cons pe_int pa_nil))))) (pe_lst (pa_cons pe_int (pa_cons pe_int pa_nil))) (nomark _)) (pw_or1 (pt_cmpR (op_neD hr.units) (pe_call G_steps_needed (hr.mono (by decide)) (by rfl) m_steps_needed k_steps_needed b_steps_needed .nil pass0 (pa_cons (pv 2) (pa_cons pe_str pa_nil))) pe_int (nomark _))))) (pss_one (ps_ret pe_bl)) pss_nil)
      (pss_one (ps_ret (pe_and (pe_cmpR (op_eqD hr.units) (pe_call G_steps_needed (hr.mono (by decide)) (by rfl) m_steps_needed k_steps_needed b_steps_needed .nil pass0 (pa_cons pe_str (pa_cons pe_str pa_nil))) pe_int (nomark _)) (pe_one (pe_cmpR op_isN (pe_call G_steps_needed (hr.mono (by decide)) (by rfl) m_steps_needed k_steps_needed b_steps_needed .nil pass0 (pa_cons pe_str (pa_cons pe_str pa_nil))) pe_non (nomark _)))))))))))))), ?_⟩
    have a1 : ∀ {σ : L2.St} {H : Hp} {x : V}, EvA (tCons (tC x) tNil) σ H [x] := ea_cons ev_c ea_nil
    have a2 : ∀ {σ : L2.St} {H : Hp} {x y : V}, EvA (tCons (tC x) (tCons (tC y) tNil)) σ H [x, y] := ea_cons ev_c (ea_cons ev_c ea_nil)
    have a3 : ∀ {σ : L2.St} {H : Hp} {x y z : V}, EvA (tCons (tC x) (tCons (tC y) (tCons (tC z) tNil))) σ H [x, y, z] := ea_cons ev_c (ea_cons ev_c (ea_cons ev_c ea_nil))
    have a4 : ∀ {σ : L2.St} {H : Hp} {x y z u : V}, EvA (tCons (tC x) (tCons (tC y) (tCons (tC z) (tCons (tC u) tNil)))) σ H [x, y, z, u] := ea_cons ev_c (ea_cons ev_c (ea_cons ev_c (ea_cons ev_c ea_nil)))
    refine q_pass (f_or (cL a1 (fun G e Q q E => ⟨PySem.Str.ofString "x.xx", rfl, by decide +kernel, q⟩) a3 (by decide +kernel) (by decide +kernel) (by decide) (by decide +kernel))
      (f_or (cV1 (y := lt "xxx") a3 (fun G e Q q E => ⟨mA, mC, 1, rfl, by decide +kernel, by decide +kernel, by decide +kernel, q⟩) (by decide +kernel) rfl) (cV1 (y := lt "xx.xx") a3 (fun G e Q q E => ⟨mC, mC, 3, rfl, by decide +kernel, by decide +kernel, by decide +kernel, q⟩) (by decide +kernel) rfl))) fun H1 e1 => ?_
    refine q_par2 (ea_cons (ev_turn (z := sG) ev_c (ev_var rfl) (by decide +kernel) (by omega)) (ea_cons (ev_turn (z := sB) ev_c (ev_var rfl) (by decide +kernel) (by omega)) ea_nil)) fun H2 e2 => ?_
    have g2 : ∀ {σ : L2.St} {H : Hp} {i : Nat} {x y : V}, σ[i]? = some (some x) → EvA (tCons (tVar i) (tCons (tC y) tNil)) σ H [x, y] := fun h => ea_cons (ev_var h) (ea_cons ev_c ea_nil)
    have g4 : ∀ {σ : L2.St} {H : Hp} {i : Nat} {x y z u : V}, σ[i]? = some (some x) → EvA (tCons (tVar i) (tCons (tC y) (tCons (tC z) (tCons (tC u) tNil)))) σ H [x, y, z, u] := fun h => ea_cons (ev_var h) (ea_cons ev_c (ea_cons ev_c (ea_cons ev_c ea_nil)))
    refine q_pass (f_or (neX (xCallL (g2 rfl) (fun G e Q q E => ⟨_, mA, rfl, rowG b hb, smA.1, q⟩) (v3_views b hb) (v3_ok b hb)) (dx_L (el_turned (zs := s3) (b := b) (ea_cons ev_c (ea_cons ev_c (ea_cons ev_c ea_nil))) (by decide) (by decide +kernel) (by omega) (fun _ => rfl) (fun _ => rfl) (fun _ => rfl)) (okAll (v3_ok b hb))) (v3_sh b hb))
      (et_is (et_not (et_B (vCall (g2 rfl) (fun G e Q q E => ⟨_, mA, rfl, rowG b hb, smA.1, q⟩) (by rw [tG b hb])))) rfl)) fun H3 e3 => ?_
    refine q_pass (f_or (neX (d := .tuple [.int 0, .int 2]) (fun H1 e Q q => (g2 rfl) H1 e _ fun H2 e2 => ⟨_, mA, rfl, rowB b hb, smA.1, fun h0 => (by rw [gB b hb] at h0; cases h0), fun x r hx p H3 e3 hp => q _ H3 (e2.trans e3) (by
          rw [gB b hb] at hx
          injection hx with hx _
          subst hx
          exact .tup (st_of hp) (.cons (.int _) (.cons (.int _) .nil)))⟩) (dx_tup (dx_cons (xC (y := .int 0) rfl) (dx_cons (xC (y := .int 2) rfl) dx_nil)) (show 2 ≤ 1000 by decide)) (by decide +kernel))
      (f_or (neX (xCallT (ys := [[.int 0, .int 2]]) (g2 rfl) (fun G e Q q E => ⟨_, mA, rfl, rowB b hb, smA.1, q⟩) (gB b hb) rfl) (dx_lst (dx_cons (dx_tup (dx_cons (xC (y := .int 0) rfl) (dx_cons (xC (y := .int 2) rfl) dx_nil)) (show 2 ≤ 1000 by decide)) dx_nil) (show 1 ≤ 1000 by decide)) (by decide +kernel))
        (cD (y := .int 1) (g2 rfl) (fun G e Q q E => ⟨_, mA, rfl, rowG b hb, smA.1, q⟩) (dG b hb) rfl (by decide +kernel)))) fun H4 e4 => ?_
    refine q_pass (f_or (et_B (vCall (y := .bl false) (g4 rfl) (fun G e Q q E => ⟨_, mA, 0, 1, rfl, rowG b hb, smA.1, by omega, by omega, q⟩) (by rw [st01 b hb])))
      (f_or (cL a2 (fun G e Q q E => ⟨PySem.Str.ofString "ab", mA, rfl, by decide +kernel, smA.1, q⟩) ea_nil (by decide +kernel) (by decide +kernel) (by decide) (by decide +kernel)) (nonX (vCall a2 (fun G e Q q E => ⟨PySem.Str.ofString "abc", mA, rfl, by decide +kernel, smA.1, q⟩) (by decide +kernel))))) fun H5 e5 => ?_
    refine q_pass (f_or (et_is (et_not (et_B (vCall (y := .bl true) a4 (fun G e Q q E => ⟨PySem.Str.ofString "abc", mA, 3, 3, rfl, by decide +kernel, smA.1, by omega, by omega, q⟩) (by decide +kernel)))) rfl)
      (f_or (nonX (ev_callV (g2 rfl) (fun G e Q q E => ⟨_, mA, rfl, rowG b hb, smA.1, fun _ => q, fun x r hx => (by rw [gG b hb] at hx; cases hx)⟩))) (et_is (et_not (et_B (vCall (y := .bl true) (g4 rfl) (fun G e Q q E => ⟨_, mA, 0, 0, rfl, rowG b hb, smA.1, by omega, by omega, q⟩) (by rw [st00 b hb])))) rfl))) fun H6 e6 => ?_
    have tk : ∀ {σ : L2.St} {H : Hp} {z : Str}, σ[0]? = some (some (.int (b : Int))) → z.length ≤ 60 → Ev (tCall spTurned [] E0 (tCons (tC (.str z)) (tCons (tVar 0) tNil))) σ H (.str (tn b z)) := fun h hz => ev_turn ev_c (ev_var h) hz (by omega)
    refine q_pass (f_or (cL (ea_cons (ev_var rfl) (ea_cons ev_c (ea_cons (tk rfl (by decide +kernel)) ea_nil))) (fun G e Q q E => ⟨_, mA, _, rfl, rowG b hb, smA.1, lk1 b hb, q⟩) a2 (f1 b hb) rfl (by decide) (by decide +kernel))
      (cL (ea_cons (ev_var rfl) (ea_cons ev_c (ea_cons (tk rfl (by decide +kernel)) ea_nil))) (fun G e Q q E => ⟨_, mA, _, rfl, rowG b hb, smA.1, lk2 b hb, q⟩) ea_nil (f2 b hb) rfl (by decide) (by decide +kernel))) fun H7 e7 => ?_
    refine q_pass (f_or (cL (ea_cons (ev_var rfl) (ea_cons ev_c (ea_cons (tk rfl (by decide +kernel)) (ea_cons ev_c ea_nil)))) (fun G e Q q E => ⟨_, mA, _, 1, rfl, rowG b hb, smA.1, lk2 b hb, by omega, q⟩) a2 (f3 b hb) rfl (by decide) (by decide +kernel))
      (cD (y := .int 2) (g2 rfl) (fun G e Q q E => ⟨_, mA, rfl, rowB b hb, smA.1, q⟩) (nB b hb) rfl (by decide +kernel))) fun H8 e8 => ?_
    refine s_ret (v := .bl true) (ev_is (ev_andV (a := true) (b := true) (ev_eqX (xCallV (y := .int 4) a2 (fun G e Q q E => ⟨PySem.Str.ofString "aaaa", PySem.Str.ofString "x", rfl, by decide +kernel, by decide +kernel, q⟩) (by decide +kernel) rfl) (xC (y := .int 4) rfl) (by decide +kernel)) fun _ => ev_is (ev_op (vCall (y := .non) a2 (fun G e Q q E => ⟨PySem.Str.ofString "", PySem.Str.ofString "x", rfl, by decide +kernel, by decide +kernel, q⟩) (by decide +kernel)) ev_c rv_isN) rfl) rfl) fun H9 e9 => q H9 ((((((((e1.trans e2).trans e3).trans e4).trans e5).trans e6).trans e7).trans e8).trans e9)
end
end K24
namespace K24
open PySem PySem.Spec PyProof.Rows L2 Evl Qt
theorem sort_rise {l : List (List Nat)} (h : l.Pairwise (· < ·)) : (l.mergeSort fun x y => decide (x ≤ y)) = l := List.mergeSort_of_pairwise (h.imp fun {x y} c => decide_eq_true (List.le_iff_lt_or_eq.mpr (.inl c)))
theorem rise_nodup {l : List (List Nat)} (h : l.Pairwise (· < ·)) : l.Nodup := h.imp fun {x y} c e => by
  subst e
  exact List.lt_irrefl _ c
theorem rows_is {m : Str} {zs : List Str} {L : List (List Nat)} (hz : ∀ z ∈ zs, isLook m (.str z) = true) (st : L.Pairwise (· < ·)) (h1 : ∀ s ∈ ordersM zs.length zs.length, (putOf m (s.map (zAt zs))).2 = none → (putOf m (s.map (zAt zs))).1 ∈ L)
    (h2 : ∀ r ∈ L, ∃ s ∈ ordersM zs.length zs.length, putOf m (s.map (zAt zs)) = (r, none)) : rowsM m zs = L := by
  unfold rowsM
  rw [merge_one (rows_nodup hz) (rise_nodup st) (fun r => ?_), sort_rise st]
  rw [rows_iff]
  constructor
  · rintro ⟨s, hs, e⟩
    have := h1 s hs (by rw [e])
    rw [e] at this
    exact this
  · exact h2 r
def insL (x : List Nat) : List (List Nat) → List (List Nat)
  | [] => [x]
  | y :: r => if x ≤ y then x :: y :: r else y :: insL x r
def zb (b : Nat) : List Str := s3.map (tn b)
def zc (b : Nat) : List Str := [tn b (PySem.Str.ofString "ab"), tn b (PySem.Str.ofString "ba"), tn b (PySem.Str.ofString "ab")]
def d4 : List Str := [PySem.Str.ofString "abbab", PySem.Str.ofString "abbba", PySem.Str.ofString "babba", PySem.Str.ofString "bbabb"]
def dueL (b : Nat) : List (List Nat) := d4.map fun z => (tn b z).cps.toList
def sortB (b : Nat) : List (List Nat) := (dueL b).foldr insL []
theorem zb_look : ∀ b, b < 4 → ∀ z ∈ zb b, isLook mA (.str z) = true := by unfold mA zb s3; decide +kernel
theorem zc_look : ∀ b, b < 4 → ∀ z ∈ zc b, isLook mA (.str z) = true := by unfold mA zc; decide +kernel
theorem st_b : ∀ b, b < 4 → (sortB b).Pairwise (· < ·) := by unfold sortB dueL d4; decide +kernel
theorem rows1 : ∀ b, b < 4 → ∀ s ∈ ordersM 3 3, (putOf mA (s.map (zAt (zb b)))).2 = none → (putOf mA (s.map (zAt (zb b)))).1 ∈ sortB b := by unfold sortB dueL d4 mA zb s3; decide +kernel
theorem rows2 : ∀ b, b < 4 → ∀ r ∈ sortB b, ∃ s ∈ ordersM 3 3, putOf mA (s.map (zAt (zb b))) = (r, none) := by unfold sortB dueL d4 mA zb s3; decide +kernel
theorem rows_b {b : Nat} (h : b < 4) : rowsM mA (zb b) = sortB b := rows_is (zb_look b h) (st_b b h) (rows1 b h) (rows2 b h)
theorem due_nd : ∀ b, b < 4 → (dueL b).Nodup := by unfold dueL d4; decide +kernel
theorem due_m1 : ∀ b, b < 4 → ∀ x ∈ dueL b, x ∈ sortB b := by unfold sortB dueL d4; decide +kernel
theorem due_m2 : ∀ b, b < 4 → ∀ x ∈ sortB b, x ∈ dueL b := by unfold sortB dueL d4; decide +kernel
theorem due_is {b : Nat} (h : b < 4) : ((dueL b).mergeSort fun x y => decide (x ≤ y)) = sortB b := by
  rw [merge_one (due_nd b h) (rise_nodup (st_b b h)) fun x => ⟨due_m1 b h x, due_m2 b h x⟩, sort_rise (st_b b h)]
theorem sort_low : ∀ b, b < 4 → ∀ u ∈ sortB b, ∀ c ∈ u, c < 256 := by unfold sortB dueL d4; decide +kernel
theorem j1 : ∀ b, b < 4 → jV (putOf mA (zb b)) = .str (tn b sG) := by unfold mA zb s3 sG; decide +kernel
theorem k1 : ∀ b, b < 4 → okB (.str (tn b sG)) = true := by unfold sG; decide +kernel
theorem k2 : ∀ b, b < 4 → SeqAt.shaped (datV (.str (tn b sG))) = true := by unfold sG; decide +kernel
theorem j2 : ∀ b, b < 4 → jV (putOf mA (zc b)) = .non := by unfold mA zc; decide +kernel
theorem j3 : ∀ b, b < 4 → cV (putOf mA (zc b)) = .int 2 := by unfold mA zc; decide +kernel
theorem cut_zc : ∀ b, b < 4 → cutV (s3V b) none (some 2) ++ cutV (s3V b) none (some 1) = (zc b).map V.str := by unfold s3V s3 zc; decide +kernel
def q2 : List Str := [PySem.Str.ofString "ab", PySem.Str.ofString "??"]
def w2 : List Str := [PySem.Str.ofString "ab", PySem.Str.ofString "bb"]
theorem j4 : jV (putOf mA q2) = lt "a?b?" := by unfold mA q2; decide +kernel
theorem su1 : ∀ b, b < 4 → sureV (sortB b) 5 = lt "?????" := by unfold sortB dueL d4; decide +kernel
theorem su2 : rowsM mC w2 = [(PySem.Str.ofString "abb").cps.toList] := rows_is (by unfold mC w2; decide +kernel) (by decide +kernel) (by unfold mC w2; decide +kernel) (by unfold mC w2; decide +kernel)
theorem su3 : sureV (rowsM mC w2) 3 = lt "abb" := by
  rw [su2]
  decide +kernel
theorem md1 : ∀ d, d < 1 → madeL mA 2 lABABA d lABABA.length = [] := by unfold mA lABABA; decide +kernel
theorem md2 : (madeL mA 2 lABABA 1 lABABA.length).head? = some (PySem.Str.ofString "ababb").cps.toList := by unfold mA lABABA; decide +kernel
theorem md3 : (madeL mA 2 sG.cps.toList 0 sG.cps.toList.length).head? = some sG.cps.toList := by unfold mA sG; decide +kernel
def lAAA : List Nat := (PySem.Str.ofString "aaa").cps.toList
theorem md4 : ∀ c, c < 4 → madeL (PySem.Str.ofString "x") 2 lAAA c lAAA.length = [] := by unfold lAAA; decide +kernel
theorem wk1 : weakL mA 2 sG.cps.toList sG.cps.toList.length = [[.int 1, lt "a"], [.int 2, lt "a"]] := by unfold mA sG; decide +kernel
theorem letG : LetIn 2 sG.cps.toList := by unfold LetIn sG; decide +kernel
theorem letAAA : LetIn 2 lAAA := by unfold LetIn lAAA; decide +kernel
def wA (b : Nat) : Str := tn b (PySem.Str.ofString "aa")
def wB (b : Nat) : Str := tn b (PySem.Str.ofString "b?")
theorem tr1 : ∀ b, b < 4 → stM (tn b sB) mA [] = [0, 1, 2] := by unfold mA sB; decide +kernel
theorem tr2 : ∀ b, b < 4 → stM (tn b sB) mA [wA b] = [0, 2] := by unfold mA sB wA; decide +kernel
theorem tr3 : ∀ b, b < 4 → stM (tn b sB) mA [wA b, wB b] = [0] := by unfold mA sB wA wB; decide +kernel
theorem pl1 : ∀ b, b < 4 → ((stM (tn b sB) mA ([] ++ [wA b] ++ [wB b])).map fun f => f + (([] ++ [wA b] ++ [wB b] : List Str).length - 1)) = [1] := by unfold mA sB wA wB; decide +kernel
theorem pl2 : ∀ b, b < 4 → ((stM (tn b sB) mA ([] ++ [wA b] ++ [wB b]).dropLast).map fun f => f + (([] ++ [wA b] ++ [wB b] : List Str).dropLast.length - 1)) = [0, 2] := by unfold mA sB wA wB; decide +kernel
theorem and_call {ta tb : TE} {σ : L2.St} {H : Hp} {Q : VK} (h : Ev ta σ H (.bl true)) (k : ∀ H1, Ex H H1 → tb σ H1 Q) : tAndV ta tb σ H Q := h H (Ex.refl H) _ fun H1 e => ⟨true, rfl, iteT (k H1 e)⟩
theorem t_call {sp : Sp} {dvs vs : List V} {E : XK} {ta : TA} {σ : L2.St} {H : Hp} {Q : VK} (h : EvA ta σ H vs) (k : ∀ H1, Ex H H1 → sp (vs ++ dvs) H1 Q E) : tCall sp dvs E ta σ H Q := h H (Ex.refl H) _ fun H1 e => k H1 e
section
variable {K : PySem.W.Frag} {σ : L2.St} {H : Hp} {te tb : TE} {ta : TA} {E : XK}
theorem ev_callL1 {sp : Sp} {dvs xs : List V} {x v : V} (h1 : Ev te σ H x) (hL : EvL tb σ H xs) (hs : ∀ p G, G p = some (.lst xs) → ∀ Q, RetV v G Q → ∀ E, sp ([x, .ref p] ++ dvs) G Q E) : Ev (tCall sp dvs E (tCons te (tCons tb tNil))) σ H v := fun H1 e Q q =>
  h1 H1 e _ fun H2 e2 => hL H2 (e.trans e2) _ fun p H3 np e3 hp => hs p H3 hp Q (fun H4 e4 => q H4 ((e2.trans e3).trans e4)) E
theorem dx_mend {r : List Nat} {m : Str} {n c0 : Nat} {u0 : List Nat} (hm : isMask m = true) (n1 : 1 ≤ n) (n4 : n ≤ 4) (hi : LetIn n r) (h8 : r.length ≤ 8) (h5 : n ^ r.length ≤ 5000) (hc : c0 ≤ r.length) (h0 : ∀ d, d < c0 → madeL m n r d r.length = []) (h1 : (madeL m n r c0 r.length).head? = some u0) (lo : okB (.str (txt u0)) = true)
    (h : EvA ta σ H [.str (txt r), .str m, .int (n : Int)]) : EvX K (tCall spMend [] E ta) σ H (.tuple [.int (c0 : Int), .str (txt u0)]) := fun H1 e Q q =>
  h H1 e _ fun H2 e2 => ⟨r, m, n, rfl, hm, n1, n4, hi, h8, h5, fun c u t hcl hu hd p H3 np e3 hp => q _ H3 (e2.trans e3) (by
    have hcc : c = c0 := by
      rcases Nat.lt_trichotomy c c0 with k | k | k
      · rw [h0 c k] at hu; cases hu
      · exact k
      · rw [hd c0 k] at h1; cases h1
    subst hcc
    rw [hu] at h1
    obtain rfl := Option.some.inj h1
    exact .tup (st_of hp) (.cons (.int _) (.cons (dp_flat (okB_ok lo)) .nil))), fun hn => by rw [hn c0 hc] at h1; cases h1⟩
theorem ok_ints (l : List Nat) : ∀ v ∈ l.map (fun f : Nat => V.int (f : Int)), okV v := fun v hv => by
  obtain ⟨i, _, rfl⟩ := List.mem_map.mp hv
  exact trivial
theorem dx_starts {CK t F L : Addr} {row m : Str} {zs : List Str} {l : List Nat} (h : Ev te σ H (.ref t)) (hT : TrkA CK H t F L row m zs) (e : stM row m zs = l) : EvX K (tMeth CK "starts" (spTStarts CK) [] E0 te tNil) σ H (.list ((l.map fun f : Nat => V.int (f : Int)).map datV)) := fun H1 e1 Q q => h H1 e1 _ fun H2 e2 => by
  have hT2 := hT.ex (e1.trans e2)
  obtain ⟨dx, ht, _⟩ := id hT2
  exact ⟨t, dx, _, rfl, ht, tF_starts _ _ _ _, t, F, L, row, m, zs, rfl, hT2, fun p H3 np e3 hp => q _ H3 (e2.trans e3) (.lst (sq_of hp) (by rw [e]; exact dp_flats (ok_ints l)))⟩
theorem dx_places {CK t F L : Addr} {row m : Str} {zs : List Str} {l : List Nat} (h : Ev te σ H (.ref t)) (hT : TrkA CK H t F L row m zs) (e : ((stM row m zs).map fun f => f + (zs.length - 1)) = l) : EvX K (tMeth CK "places" (spTPlaces CK) [] E0 te tNil) σ H (.list ((l.map fun f : Nat => V.int (f : Int)).map datV)) := fun H1 e1 Q q => h H1 e1 _ fun H2 e2 => by
  have hT2 := hT.ex (e1.trans e2)
  obtain ⟨dx, ht, _⟩ := id hT2
  have e9 : (l.map fun f : Nat => V.int (f : Int)) = (stM row m zs).map fun f => V.int ((f + (zs.length - 1) : Nat) : Int) := by
    rw [← e, List.map_map]
    rfl
  exact ⟨t, dx, _, rfl, ht, tF_no _ _ _ _ (by decide +kernel) (by decide +kernel) (by decide +kernel) (by decide +kernel), t, F, L, row, m, zs, rfl, hT2, fun p H3 np e3 hp => q _ H3 (e2.trans e3) (.lst (sq_of hp) (by rw [e9]; exact dp_flats (by rw [← e9]; exact ok_ints l)))⟩
theorem or_see {CK t F L : Addr} {row m z : Str} {zs : List Str} {l : List Nat} {n : Nat} {targ : TE} {u : TT} {Q : Bool → Hp → Prop} (h : Ev te σ H (.ref t)) (hT : TrkA CK H t F L row m zs) (h40 : zs.length ≤ 40) (ha : Ev targ σ H (.str z)) (hlk : isLook m (.str z) = true) (e : stM row m (zs ++ [z]) = l) (hn : l.length = n)
    (k : ∀ H3 L3, TrkA CK H3 t F L3 row m (zs ++ [z]) → u σ H3 Q) : tOr (tTest (tOp (rNeD K) (tMeth CK "see" (spSee0 K CK) [] E0 te (tCons targ tNil)) (tC (.int (n : Int))))) u σ H Q := h H (Ex.refl H) _ fun H1 e1 => by
  have hT1 := hT.ex e1
  obtain ⟨dx, ht, _⟩ := id hT1
  refine ⟨t, dx, _, rfl, ht, tF_no _ _ _ _ (by decide +kernel) (by decide +kernel) (by decide +kernel) (by decide +kernel), ?_⟩
  refine (ea_cons ha ea_nil) H1 e1 _ fun H2 e2 => ⟨t, F, L, row, m, zs, z, rfl, hT1.ex e2, h40, hlk, fun H3 L3 x3 nL3 Lt3 hT3 => ?_⟩
  rw [e, hn]
  refine ev_c H3 (Ex.refl H3) _ fun H4 e4 => ?_
  refine ne_same (d := .int (n : Int)) (.int _) (.int _) rfl ?_
  exact ⟨false, rfl, ite2 (fun q => by cases q) fun _ => k H4 L3 (hT3.ex e4)⟩
end
end K24
namespace K24
open PySem PySem.Spec PyProof.Rows L2 Evl Qt
def spLaw (K : PySem.W.Frag) : Sp := fun vs H Q _ => ∃ (a : Addr) (ns : List Int), vs = [.ref a] ∧ SqL K H a (ns.map V.int) ∧ ns.length ≤ 63 ∧ ∀ H', Q (.bl true) H'
def spByJ : Sp := fun vs H Q _ => ∃ b : Nat, vs = [.int (b : Int)] ∧ b < 4 ∧ ∀ H', Q (.bl true) H'
theorem q_make {σ : L2.St} {H : Hp} {C : Addr} {sp : Sp} {dvs vs : List V} {E : XK} {ta : TA} {i : Nat} {tz : TS} {D : Ends} (h : EvA ta σ H vs) (k : ∀ H1, Ex H H1 → ∀ x dx, H1 x = none → H1 dx = none → dx ≠ x → sp (.ref x :: (vs ++ dvs)) (upd (upd H1 dx (.own x)) x (.ins C dx [])) (fun v H2 => v = .non ∧ tz D (σ.set i (some (.ref x))) H2) E) : tSeq (tAsg (tMake C sp dvs E ta) (gName i)) tz D σ H := h H (Ex.refl H) _ fun H1 e => k H1 e
section
variable {P : Program} {w : World} {K : PySem.W.Frag} {mg : Str → Option Value} {base : Heap} {CM CV CG fG CK fK a_SMALL_WIDTH a_SMALL_SEEN : Addr}
theorem ok_lawjoined (e : Ent K mg "_law_joined" s__law_joined p__law_joined) (T : Top K mg CM CV CG fG CK fK a_SMALL_WIDTH a_SMALL_SEEN) (c1 : Cal P w K mg base CX0 1 "_law_turned" p__law_turned spTurned) (c2 : Cal P w K mg base CX0 8 "joined" p_joined (spOneOf K jV)) (c3 : Cal P w K mg base CX0 8 "first_clash" p_first_clash (spOneOf K cV)) (c4 : Cal P w K mg base CX0 7 "rows_from" p_rows_from (spRows K))
    (c5 : Cal P w K mg base CX0 8 "sure_from" p_sure_from (spSureF K)) (c6 : Cal P w K mg base CX0 8 "mend" p_mend spMend) (c7 : Cal P w K mg base CX0 7 "weak_letters" p_weak_letters spWeak)
    (i1 : ∃ fd, FnOk P w K mg base CX0 (5 + 1) fK fd p_Tracker___init__ (spTInit CK) ∧ L2.Binds K fd p_Tracker___init__ [])
    (i2 : ∃ g fd, Meth K CK "places" g ∧ FnOk P w K mg base CX0 (3 + 2) g fd p_Tracker_places (spTPlaces CK) ∧ L2.Binds K fd p_Tracker_places []) (i3 : ∃ g fd, Meth K CK "undo" g ∧ FnOk P w K mg base CX0 1 g fd p_Tracker_undo (spUndo K CK) ∧ L2.Binds K fd p_Tracker_undo [])
    (i4 : ∃ g fd, Meth K CK "starts" g ∧ FnOk P w K mg base CX0 (3 + 1) g fd p_Tracker_starts (spTStarts CK) ∧ L2.Binds K fd p_Tracker_starts []) (i5 : ∃ g fd, Meth K CK "__len__" g ∧ FnOk P w K mg base CX0 1 g fd p_Tracker___len__ (spTLen CK) ∧ L2.Binds K fd p_Tracker___len__ [])
    (i6 : ∃ g fd, Meth K CK "see" g ∧ FnOk P w K mg base CX0 (3 + 2) g fd p_Tracker_see (spSee0 K CK) ∧ L2.Binds K fd p_Tracker_see []) : Cal P w K mg base CX0 9 "_law_joined" p__law_joined spByJ := by
  obtain ⟨f, fd, F, m_, b_⟩ := e
  obtain ⟨f__law_turned, fd__law_turned, G__law_turned, m__law_turned, k__law_turned, b__law_turned⟩ := c1
  obtain ⟨f_joined, fd_joined, G_joined, m_joined, k_joined, b_joined⟩ := c2
  obtain ⟨f_first_clash, fd_first_clash, G_first_clash, m_first_clash, k_first_clash, b_first_clash⟩ := c3
  obtain ⟨f_rows_from, fd_rows_from, G_rows_from, m_rows_from, k_rows_from, b_rows_from⟩ := c4
  obtain ⟨f_sure_from, fd_sure_from, G_sure_from, m_sure_from, k_sure_from, b_sure_from⟩ := c5
  obtain ⟨f_mend, fd_mend, G_mend, m_mend, k_mend, b_mend⟩ := c6
  obtain ⟨f_weak_letters, fd_weak_letters, G_weak_letters, m_weak_letters, k_weak_letters, b_weak_letters⟩ := c7
  obtain ⟨fd_Tracker_init, G_Tracker_init, b_Tracker_init⟩ := i1
  obtain ⟨g_places, fd_Tracker_places, mt_Tracker_places, G_Tracker_places, b_Tracker_places⟩ := i2
  obtain ⟨g_undo, fd_Tracker_undo, mt_Tracker_undo, G_Tracker_undo, b_Tracker_undo⟩ := i3
  obtain ⟨g_starts, fd_Tracker_starts, mt_Tracker_starts, G_Tracker_starts, b_Tracker_starts⟩ := i4
  obtain ⟨g_len, fd_Tracker___len__, mt_Tracker___len__, G_Tracker___len__, b_Tracker___len__⟩ := i5
  obtain ⟨g_see, fd_Tracker_see, mt_Tracker_see, G_Tracker_see, b_Tracker_see⟩ := i6
  have M_Tracker := T.c_Tracker.mks
  have mc_Tracker := T.c_Tracker.m
  have cl_Tracker := T.c_Tracker.cl
  refine ⟨f, fd, F.ok sc__law_joined (fun vs H Q E h => ?_) (fun cdv A outer s H vs Q E hr h => ?_), m_, F.kp, b_⟩
  · obtain ⟨b, rfl, _⟩ := h
    rfl
  · obtain ⟨b, rfl, hb, q⟩ := h
    refine ⟨_, (pss_cons (ps_setLc (i := 1) (own := [("_law_view", 4)]) (g := gName 4) (by rfl) sc__law_joined.nd rfl rfl (sw_true rfl rfl rfl (by decide +kernel)) (pi_list (pe_lst (pa_cons pe_str (pa_cons pe_str (pa_cons pe_str pa_nil))))) (blkOk_by (own := [("_law_view", 4)]) (N := n__law_joined) (sc := (defScope s__law_joined)) (by decide +kernel)) (fun _ _ _ _ _ => pg_name (i := 4) sc__law_joined.nd rfl (Or.inl rfl)) (fun _ _ _ _ _ => pts_nil) (fun _ _ _ _ _ => (pe_call G__law_turned (hr.mono (by decide)) (by rfl) m__law_turned k__law_turned b__law_turned .nil pass0 (pa_cons (pv 4) (pa_cons (pv 0) pa_nil)))))
      (pss_cons (ps_if (PW.pt (pw_or (pt_cmpR (op_neD hr.units) (pe_call G_joined (hr.mono (by decide)) (by rfl) m_joined k_joined b_joined .nil pass0 (pa_cons pe_str (pa_cons (pv 1) pa_nil))) (pe_call G__law_turned (hr.mono (by decide)) (by rfl) m__law_turned k__law_turned b__law_turned .nil pass0 (pa_cons pe_str (pa_cons (pv 0) pa_nil))) (nomark _)) (pw_or1 (pt_cmpR (op_neD hr.units) (pe_call G_joined (hr.mono (by decide)) (by rfl) m_joined k_joined b_joined .nil pass0 (pa_cons pe_str (pa_cons (pe_lst (pa_cons pe_str (pa_cons pe_str pa_nil))) pa_nil))) pe_str (nomark _))))) (pss_one (ps_ret pe_bl)) pss_nil)
      (pss_cons (ps_if (PW.pt (pw_or (pt_cmpR op_notN (pe_call G_joined (hr.mono (by decide)) (by rfl) m_joined k_joined b_joined .nil pass0 (pa_cons pe_str (pa_cons (pe_op op_cat (pe_slice sl_list (pv 1) po_none (po_some pe_int)) (pe_slice sl_list (pv 1) po_none (po_some pe_int))) pa_nil))) pe_non (nomark _)) (pw_or1 (pt_cmpR (op_neD hr.units) (pe_call G_first_clash (hr.mono (by decide)) (by rfl) m_first_clash k_first_clash b_first_clash .nil pass0 (pa_cons pe_str (pa_cons (pe_op op_cat (pe_slice sl_list (pv 1) po_none (po_some pe_int)) (pe_slice sl_list (pv 1) po_none (po_some pe_int))) pa_nil))) pe_int (nomark _))))) (pss_one (ps_ret pe_bl)) pss_nil)
      (pss_cons (ps_set (i := 2) sc__law_joined.nd rfl (Or.inl rfl) (pe_callB (cr_sortedB hr.units) (by rfl) T.m_sorted (by decide +kernel) (pa_cons (pe_lc (own := [("_law_line", 5)]) (g := gName 5) (by rfl) sc__law_joined.nd (pi_list (pe_lst (pa_cons pe_str (pa_cons pe_str (pa_cons pe_str (pa_cons pe_str pa_nil)))))) (blkOk_by (own := [("_law_line", 5)]) (N := n__law_joined) (sc := (defScope s__law_joined)) (by decide +kernel)) (fun _ _ _ _ _ => pg_name (i := 5) sc__law_joined.nd rfl (Or.inl rfl)) (fun _ _ _ _ _ => pts_nil) (fun _ _ _ _ _ => (pe_call G__law_turned (hr.mono (by decide)) (by rfl) m__law_turned k__law_turned b__law_turned .nil pass0 (pa_cons (pv 5) (pa_cons (pv 0) pa_nil))))) pa_nil)))
      (pss_cons (ps_if (PW.pt (pw_or (pt_cmpR (op_neD hr.units) (pe_call G_rows_from (hr.mono (by decide)) (by rfl) m_rows_from k_rows_from b_rows_from .nil pass0 (pa_cons pe_str (pa_cons (pv 1) pa_nil))) (pv 2) (nomark _)) (pw_or (pt_cmpR (op_neD hr.units) (pe_call G_sure_from (hr.mono (by decide)) (by rfl) m_sure_from k_sure_from b_sure_from .nil pass0 (pa_cons pe_str (pa_cons (pv 1) pa_nil))) pe_str (nomark _)) (pw_or1 (pt_cmpR (op_neD hr.units) (pe_call G_sure_from (hr.mono (by decide)) (by rfl) m_sure_from k_sure_from b_sure_from .nil pass0 (pa_cons pe_str (pa_cons (pe_lst (pa_cons pe_str (pa_cons pe_str pa_nil))) pa_nil))) pe_str (nomark _)))))) (pss_one (ps_ret pe_bl)) pss_nil)
      (pss_cons (ps_if (PW.pt (pw_or (pt_cmpR (op_neD hr.units) (pe_call G_mend (hr.mono (by decide)) (by rfl) m_mend k_mend b_mend .nil pass0 (pa_cons pe_str (pa_cons pe_str (pa_cons pe_int pa_nil)))) (pe_tup (pa_cons pe_int (pa_cons pe_str pa_nil))) (nomark _)) (pw_or1 (pt_cmpR (op_neD hr.units) (pe_call G_mend (hr.mono (by decide)) (by rfl) m_mend k_mend b_mend .nil pass0 (pa_cons pe_str (pa_cons pe_str (pa_cons pe_int pa_nil)))) (pe_tup (pa_cons pe_int (pa_cons pe_str pa_nil))) (nomark _))))) (pss_one (ps_ret pe_bl)) pss_nil)
      (pss_cons (ps_if (PW.pt (pw_or (pt_cmpR op_notN (pe_call G_mend (hr.mono (by decide)) (by rfl) m_mend k_mend b_mend .nil pass0 (pa_cons pe_str (pa_cons pe_str (pa_cons pe_int pa_nil)))) pe_non (nomark _)) (pw_or1 (pt_cmpR (op_neD hr.units) (pe_call G_weak_letters (hr.mono (by decide)) (by rfl) m_weak_letters k_weak_letters b_weak_letters .nil pass0 (pa_cons pe_str (pa_cons pe_str (pa_cons pe_int pa_nil)))) (pe_lst (pa_cons (pe_tup (pa_cons pe_int (pa_cons pe_str pa_nil))) (pa_cons (pe_tup (pa_cons pe_int (pa_cons pe_str pa_nil))) pa_nil))) (nomark _))))) (pss_one (ps_ret pe_bl)) pss_nil)
      (pss_cons (ps_set (i := 3) sc__law_joined.nd rfl (Or.inl rfl) (pe_make M_Tracker G_Tracker_init (hr.mono (by decide)) (by rfl) mc_Tracker b_Tracker_init .nil pass0 (pa_cons (pe_call G__law_turned (hr.mono (by decide)) (by rfl) m__law_turned k__law_turned b__law_turned .nil pass0 (pa_cons pe_str (pa_cons (pv 0) pa_nil))) (pa_cons pe_str pa_nil))))
      (pss_cons (ps_if (PW.pt (pw_or (pt_cmpR (op_neD hr.units) (pe_meth0 (pv 3) cl_Tracker mt_Tracker_starts G_Tracker_starts (hr.mono (by decide)) b_Tracker_starts .nil pass0) (pe_lst (pa_cons pe_int (pa_cons pe_int (pa_cons pe_int pa_nil)))) (nomark _)) (pw_or (pt_cmpR (op_neD hr.units) (pe_meth (pv 3) cl_Tracker mt_Tracker_see G_Tracker_see (hr.mono (by decide)) b_Tracker_see .nil pass0 (pa_cons (pe_call G__law_turned (hr.mono (by decide)) (by rfl) m__law_turned k__law_turned b__law_turned .nil pass0 (pa_cons pe_str (pa_cons (pv 0) pa_nil))) pa_nil)) pe_int (nomark _)) (pw_or1 (pt_cmpR (op_neD hr.units) (pe_meth0 (pv 3) cl_Tracker mt_Tracker_starts G_Tracker_starts (hr.mono (by decide)) b_Tracker_starts .nil pass0) (pe_lst (pa_cons pe_int (pa_cons pe_int pa_nil))) (nomark _)))))) (pss_one (ps_ret pe_bl)) pss_nil)
      (pss_cons (ps_if (PW.pt (pw_or (pt_cmpR (op_neD hr.units) (pe_meth (pv 3) cl_Tracker mt_Tracker_see G_Tracker_see (hr.mono (by decide)) b_Tracker_see .nil pass0 (pa_cons (pe_call G__law_turned (hr.mono (by decide)) (by rfl) m__law_turned k__law_turned b__law_turned .nil pass0 (pa_cons pe_str (pa_cons (pv 0) pa_nil))) pa_nil)) pe_int (nomark _)) (pw_or (pt_cmpR (op_neD hr.units) (pe_meth0 (pv 3) cl_Tracker mt_Tracker_places G_Tracker_places (hr.mono (by decide)) b_Tracker_places .nil pass0) (pe_lst (pa_cons pe_int pa_nil)) (nomark _)) (pw_or1 (pt_not (pt_truth (pe_meth0 (pv 3) cl_Tracker mt_Tracker_undo G_Tracker_undo (hr.mono (by decide)) b_Tracker_undo .nil pass0) (by intro _; rfl))))))) (pss_one (ps_ret pe_bl)) pss_nil)
      (pss_one (ps_ret (pe_and (pe_cmpR op_eq (pe_callB (call_lenO mt_Tracker___len__.at_ mt_Tracker___len__.fn G_Tracker___len__ (hr.mono (by decide)) b_Tracker___len__) (by rfl) T.m_len (by decide +kernel) (pa_cons (pv 3) pa_nil)) pe_int (nomark _)) (pe_one (pe_cmpR (op_eqD hr.units) (pe_meth0 (pv 3) cl_Tracker mt_Tracker_places G_Tracker_places (hr.mono (by decide)) b_Tracker_places .nil pass0) (pe_lst (pa_cons pe_int (pa_cons pe_int pa_nil))) (nomark _)))))))))))))))), ?_⟩
    have a3 : ∀ {σ : L2.St} {H : Hp} {x y z : V}, EvA (tCons (tC x) (tCons (tC y) (tCons (tC z) tNil))) σ H [x, y, z] := ea_cons ev_c (ea_cons ev_c (ea_cons ev_c ea_nil))
    have a3x : ∀ {σ : L2.St} {H : Hp} {z : Str} {y u : V}, EvA (tCons (tC (.str z)) (tCons (tC y) (tCons (tC u) tNil))) σ H [.str (txt z.cps.toList), y, u] := fun {σ H z y u} => ea_cons (ev_is ev_c (txL z)) (ea_cons ev_c (ea_cons ev_c ea_nil))
    have tk : ∀ {σ : L2.St} {H : Hp} {z : Str}, σ[0]? = some (some (.int (b : Int))) → z.length ≤ 60 → Ev (tCall spTurned [] E0 (tCons (tC (.str z)) (tCons (tVar 0) tNil))) σ H (.str (tn b z)) := fun h hz => ev_turn ev_c (ev_var h) hz (by omega)
    refine q_asgL (el_turned (zs := s3) (b := b) (ea_cons ev_c (ea_cons ev_c (ea_cons ev_c ea_nil))) (by decide) (by decide +kernel) (by omega) (fun _ => rfl) (fun _ => rfl) (fun _ => rfl)) fun p H1 np e1 hp => ?_
    have hz := zb_look b hb
    have some_ : ∀ {σ : L2.St} {H : Hp} {z : Str}, σ[1]? = some (some (.ref p)) → EvA (tCons (tC (.str z)) (tCons (tVar 1) tNil)) σ H [.str z, .ref p] := fun h => ea_cons ev_c (ea_cons (ev_var h) ea_nil)
    refine q_pass (f_or (neX (xCallV (y := .str (tn b sG)) (some_ rfl) (fun G e Q q E => ⟨mA, p, zb b, rfl, smA.1, .inl (e _ _ hp), Nat.le_of_ble_eq_true rfl, Nat.le_of_ble_eq_true rfl, hz, q⟩) (j1 b hb) (k1 b hb)) (dx_ev (tk rfl (by decide +kernel)) (okB_ok (k1 b hb))) (k2 b hb))
      (neX (dx_ev (ev_callL1 (v := lt "a?b?") ev_c (el_lst (ea_cons ev_c (ea_cons ev_c ea_nil)) (by simp)) fun p2 G hp2 Q q E => ⟨mA, p2, q2, rfl, smA.1, .inl hp2, by decide, by decide, by unfold mA q2; decide +kernel, by rw [j4]; exact q⟩) (okB_ok rfl)) (xC rfl) (by decide +kernel))) fun H2 e2 => ?_
    have hp2 := e2 _ _ hp
    have cut : ∀ {σ : L2.St} {H : Hp}, σ[1]? = some (some (.ref p)) → H p = some (.lst (s3V b)) → EvL (tOp rCat (tSl (rSlL K) (tVar 1) tNoPart (tPart (tC (.int 2)))) (tSl (rSlL K) (tVar 1) tNoPart (tPart (tC (.int 1))))) σ H ((zc b).map V.str) := fun h hp => by
      rw [← cut_zc b hb]
      exact el_cat (el_sl (ev_var h) eo_none (eo_some ev_c) (sq_of hp)) (fun G e => el_sl (ev_var h) eo_none (eo_some ev_c) (sq_of (e _ _ hp))) (by
        have := congrArg List.length (cut_zc b hb)
        rw [List.length_append, List.length_map] at this
        have h3 : (zc b).length = 3 := rfl
        omega)
    refine q_pass (f_or (nonX (ev_callL1 ev_c (cut rfl hp2) fun p2 G hp2 Q q E => ⟨mA, p2, zc b, rfl, smA.1, .inl hp2, Nat.le_of_ble_eq_true rfl, Nat.le_of_ble_eq_true rfl, zc_look b hb, by rw [j2 b hb]; exact q⟩))
      (neX (dx_ev (ev_callL1 (v := .int 2) ev_c (cut rfl hp2) fun p2 G hp2 Q q E => ⟨mA, p2, zc b, rfl, smA.1, .inl hp2, Nat.le_of_ble_eq_true rfl, Nat.le_of_ble_eq_true rfl, zc_look b hb, by rw [j3 b hb]; exact q⟩) (okB_ok rfl)) (xC rfl) (by decide +kernel))) fun H3 e3 => ?_
    refine q_asgL (xs := tS (sortB b)) (el_is (el_sortedW (l := dueL b) (el_is (el_turned (zs := d4) (b := b) (ea_cons ev_c (ea_cons ev_c (ea_cons ev_c (ea_cons ev_c ea_nil)))) (by decide) (by decide +kernel) (by omega) (fun _ => rfl) (fun _ => rfl) (fun _ => rfl)) ?_)) (by rw [due_is hb])) fun d H4 nd e4 hd => ?_
    · unfold tS dueL
      rw [List.map_map, List.map_map]
      exact List.map_congr_left fun z _ => txL (tn b z)
    have hp4 := e4 _ _ (e3 _ _ hp2)
    refine q_pass (f_or (et_test (ev_opL1 (el_call (some_ rfl) fun G e Q q E => ⟨mA, p, zb b, rfl, smA.1, .inl (e _ _ hp4), Nat.le_of_ble_eq_true rfl, Nat.le_of_ble_eq_true rfl, hz, q⟩) (fun G e => ev_var rfl) fun p2 G hp2 e => rv_neStrs (zs := (sortB b).map txt) (by rw [hp2, rows_b hb]; unfold tS; rw [List.map_map]; rfl) (by rw [e _ _ hd]; unfold tS; rw [List.map_map]; rfl) fun z hz' => by
          obtain ⟨u, hu, rfl⟩ := List.mem_map.mp hz'
          intro c hc
          rw [txt_l] at hc
          exact sort_low b hb u hu c hc))
      (f_or (cD (y := lt "?????") (some_ rfl) (fun G e Q q E => ⟨mA, p, zb b, rfl, smA.1, .inl (e _ _ hp4), Nat.le_of_ble_eq_true rfl, Nat.le_of_ble_eq_true rfl, hz, q⟩) (by rw [rows_b hb]; exact su1 b hb) rfl (by decide +kernel))
        (neX (dx_ev (ev_callL1 (v := lt "abb") ev_c (el_lst (ea_cons ev_c (ea_cons ev_c ea_nil)) (by simp)) fun p2 G hp2 Q q E => ⟨mC, p2, w2, rfl, smC.1, .inl hp2, by decide, by decide, by unfold mC w2; decide +kernel, by rw [show w2.length + mC.length - 1 = 3 by decide +kernel, su3]; exact q⟩) (okB_ok rfl)) (xC rfl) (by decide +kernel)))) fun H5 e5 => ?_
    refine q_pass (f_or (neX (dx_mend (c0 := 1) (n := 2) smA.1 (by omega) (by omega) letABABA (by decide +kernel) (by decide +kernel) (by decide +kernel) md1 md2 (by decide +kernel) a3x) (dx_tup (dx_cons (xC (y := .int 1) rfl) (dx_cons (dx_is (xC (y := lt "ababb") rfl) (by rw [← str_txt]; rfl)) dx_nil)) (show 2 ≤ 1000 by decide)) (by decide +kernel))
      (neX (dx_mend (c0 := 0) (n := 2) smA.1 (by omega) (by omega) letG (by decide +kernel) (by decide +kernel) (by omega) (fun d h => by omega) md3 (by decide +kernel) a3x) (dx_tup (dx_cons (xC (y := .int 0) rfl) (dx_cons (dx_is (xC (y := lt "abbab") rfl) (by rw [← str_txt]; rfl)) dx_nil)) (show 2 ≤ 1000 by decide)) (by decide +kernel))) fun H6 e6 => ?_
    refine q_pass (f_or (nonX (ev_callV a3x fun G e Q q E => ⟨lAAA, PySem.Str.ofString "x", 2, rfl, by decide +kernel, by omega, by omega, letAAA, by decide +kernel, by decide +kernel, fun c u t hc hu _ => (by rw [md4 c (by have : lAAA.length = 3 := (by decide +kernel); omega)] at hu; cases hu), fun _ => q⟩))
      (neX (xCallT (ys := [[.int 1, lt "a"], [.int 2, lt "a"]]) a3x (fun G e Q q E => ⟨sG.cps.toList, mA, 2, rfl, smA.1, by omega, by omega, letG, by decide +kernel, q⟩) wk1 rfl) (dx_lst (dx_cons (dx_tup (dx_cons (xC (y := .int 1) rfl) (dx_cons (xC (y := lt "a") rfl) dx_nil)) (show 2 ≤ 1000 by decide)) (dx_cons (dx_tup (dx_cons (xC (y := .int 2) rfl) (dx_cons (xC (y := lt "a") rfl) dx_nil)) (show 2 ≤ 1000 by decide)) dx_nil)) (show 2 ≤ 1000 by decide)) (by decide +kernel))) fun H7 e7 => ?_
    -- the tracker
    refine q_make (ea_cons (tk (z := sB) rfl (by decide +kernel)) (ea_cons ev_c ea_nil)) fun H8 e8 => ?_
    refine fun t dy nt ny hne => ⟨H8, t, dy, _, _, rfl, (Ex.new ny).trans (Ex.new (by rw [upd_ne (Ne.symm hne)]; exact nt)), nt, upd_same, rowB b hb, smA.1, fun H9 F1 L1 e9 nF1 nL1 _ _ hT1 => ⟨rfl, ?_⟩⟩
    dsimp only [tSeq, gName]
    refine t_orF (neX (dx_starts (ev_var rfl) hT1 (tr1 b hb)) (xLit a3 rfl (by decide)) (by decide +kernel)) fun H10 e10 => ?_
    refine or_see (n := 2) (l := [0, 2]) (ev_var rfl) (hT1.ex e10) (by simp) (tk rfl (by decide +kernel)) (lk2 b hb) (tr2 b hb) rfl fun H11 L2 hT2 => ?_
    refine (neX (dx_starts (ev_var rfl) hT2 (tr2 b hb)) (xLit (ea_cons ev_c (ea_cons ev_c ea_nil)) rfl (by decide)) (by decide +kernel)) H11 (Ex.refl H11) _ fun H12 e12 => ite2 (fun q => by cases q) fun _ => ?_
    refine or_see (n := 1) (l := [0]) (ev_var rfl) (hT2.ex e12) (by simp) (tk rfl (by decide +kernel)) (lk1 b hb) (tr3 b hb) rfl fun H13 L3 hT3 => ?_
    refine t_orF (neX (dx_places (l := [1]) (ev_var rfl) hT3 (pl1 b hb)) (xLit (ea_cons ev_c ea_nil) rfl (by decide)) (by decide +kernel)) fun H14 e14 => ?_
    have hT4 := hT3.ex e14
    obtain ⟨d4, ht4, _⟩ := id hT4
    refine ⟨_, rfl, t, d4, _, rfl, ht4, tF_no _ _ _ _ (by decide +kernel) (by decide +kernel) (by decide +kernel) (by decide +kernel), t, F1, L3, _, _, _, rfl, hT4, fun H15 L4 x15 nL4 Lt4 hT5 => ⟨_, rfl, ite2 (fun q => by cases q) fun _ => ?_⟩⟩
    refine s_ret (v := .bl true) (ev_is (ev_andV (a := true) (b := true) (ev_is (ev_op (ev_lenT (ev_var rfl) hT5) ev_c (rv_eq rfl)) (by show V.bl (decide (V.int ((1 : Nat) : Int) = V.int 1)) = V.bl true; rfl)) fun _ => ev_eqX (dx_places (l := [0, 2]) (ev_var rfl) hT5 (pl2 b hb)) (xLit (ea_cons ev_c (ea_cons ev_c ea_nil)) rfl (by decide)) (by decide +kernel)) rfl) fun H16 e16 => q _
theorem ok_law {f : Addr} {fd : FuncData} (F : Fun K "law" "law" s_law f fd) (T : Top K mg CM CV CG fG CK fK a_SMALL_WIDTH a_SMALL_SEEN) (c1 : Cal P w K mg base CX0 1 "_law_taken" p__law_taken (spTaken K)) (c2 : Cal P w K mg base CX0 8 "_law_viewed" p__law_viewed spBy) (c3 : Cal P w K mg base CX0 12 "_law_long" p__law_long spYes) (c4 : Cal P w K mg base CX0 9 "_law_joined" p__law_joined spByJ) : FnOk P w K mg base CX0 17 f fd p_law (spLaw K) := by
  obtain ⟨f__law_taken, fd__law_taken, G__law_taken, m__law_taken, k__law_taken, b__law_taken⟩ := c1
  obtain ⟨f__law_viewed, fd__law_viewed, G__law_viewed, m__law_viewed, k__law_viewed, b__law_viewed⟩ := c2
  obtain ⟨f__law_long, fd__law_long, G__law_long, m__law_long, k__law_long, b__law_long⟩ := c3
  obtain ⟨f__law_joined, fd__law_joined, G__law_joined, m__law_joined, k__law_joined, b__law_joined⟩ := c4
  refine F.ok sc_law (fun vs H Q E h => ?_) (fun cdv A outer s H vs Q E hr h => ?_)
  · obtain ⟨a, ns, rfl, _⟩ := h
    rfl
  · obtain ⟨a, ns, rfl, hS, hlen, q⟩ := h
    refine ⟨_, (pss_cons (ps_set (i := 1) sc_law.nd rfl (Or.inl rfl) (pe_lst (pa_cons (pv 0) (pa_cons pe_int (pa_cons pe_int (pa_cons pe_int pa_nil))))))
      (pss_cons (ps_set (i := 2) sc_law.nd rfl (Or.inl rfl) (pe_call G__law_taken (hr.mono (by decide)) (by rfl) m__law_taken k__law_taken b__law_taken .nil pass0 (pa_cons (pv 1) (pa_cons pe_int pa_nil))))
      (pss_one (ps_ret (pe_and (pe_call G__law_viewed (hr.mono (by decide)) (by rfl) m__law_viewed k__law_viewed b__law_viewed .nil pass0 (pa_cons (pv 2) pa_nil)) (pe_and (pe_call0 G__law_long (hr.mono (by decide)) (by rfl) m__law_long k__law_long b__law_long .nil pass0) (pe_one (pe_call G__law_joined (hr.mono (by decide)) (by rfl) m__law_joined k__law_joined b__law_joined .nil pass0 (pa_cons (pv 2) pa_nil))))))))), ?_⟩
    refine ⟨_, rfl, by show 4 ≤ sizeLine; decide, fun r nr => ?_⟩
    have R0 : Qt.Row K r a ns (upd H r (.lst [.ref a, .int 0, .int 324, .int 0])) := ⟨0, 324, 0, upd_same, ex_l (Ex.new nr) hS, by omega, by omega, by omega, by omega⟩
    refine ⟨_, rfl, r, a, ns, 4, rfl, by omega, by omega, R0, fun k H2 k0 k1 X2 R2 => ?_⟩
    obtain ⟨b, rfl⟩ := Int.eq_ofNat_of_zero_le k0
    have hb : b < 4 := by omega
    refine and_call (ev_callV (ea_cons (ev_var rfl) ea_nil) fun G e Q q E => ⟨b, rfl, hb, q⟩) fun H3 e3 => ?_
    refine and_call (ev_callV ea_nil fun G e Q q E => ⟨rfl, q⟩) fun H4 e4 => ?_
    exact t_call (ea_cons (ev_var rfl) ea_nil) fun H5 e5 => ⟨b, rfl, hb, q⟩
end
end K24
namespace K24
open PySem PySem.Spec PyProof.Rows L2 Evl Qt
/-- the def x stands in the written part -/
def DefAt (K : PySem.W.Frag) (x : Str) (st : Stmt) : Prop := ∃ (f : Addr) (oc : Value) (od : Option Addr) (kV dc pm : Value) (an : Option Addr) (cd ct : Value) (sl : Array (Option Value)),
  PySem.W.nsIn K mainGlobals x = some (some (.ref f)) ∧ K.lookup f = some ⟨oc, od, .func (PySem.W.fnOf x x (defArgs st) (defBody st) (defScope st) .none kV dc pm an cd ct), sl⟩ ∧ PySem.W.codeIn K cd x = true ∧ PySem.W.keepIn K (.ref f) = true
theorem DefAt.mk {K : PySem.W.Frag} {x : Str} {st : Stmt} {f : Addr} {oc : Value} {od : Option Addr} {kV dc pm : Value} {an : Option Addr} {cd ct : Value} {sl : Array (Option Value)}
    (a : PySem.W.nsIn K mainGlobals x = some (some (.ref f))) (l : K.lookup f = some ⟨oc, od, .func (PySem.W.fnOf x x (defArgs st) (defBody st) (defScope st) .none kV dc pm an cd ct), sl⟩) (c : PySem.W.codeIn K cd x = true) (k : PySem.W.keepIn K (.ref f) = true) : DefAt K x st :=
  ⟨f, oc, od, kV, dc, pm, an, cd, ct, sl, a, l, c, k⟩
theorem DefAt.ent {K : PySem.W.Frag} {h : Heap} {mg : Str → Option Value} {x : Str} {st : Stmt} {ps : List Str} (D : DefAt K x st) (X : K.In h) (G : h.Ns mainGlobals mg)
    (hb : ∀ (kV doc pm : Value) (an : Option Addr) (cdv ct : Value) (us : List Value), us.length = ps.length → bindArgs (PySem.W.fnOf x x (defArgs st) (defBody st) (defScope st) .none kV doc pm an cdv ct) ⟨us, []⟩ = pure (ps.zip us)) : Ent K mg x st ps := by
  obtain ⟨f, oc, od, kV, dc, pm, an, cd, ct, sl, a, l, c, k⟩ := D
  have F := fun_mk (st := st) l c k
  exact ⟨f, _, F, PySem.W.mg_of X G a, F.binds hb⟩
/-- an error class of the text -/
def ErrAt (K : PySem.W.Frag) (x : Str) (C : Addr) : Prop := PySem.W.nsIn K mainGlobals x = some (some (.ref C)) ∧ PySem.W.excIn K C [.type "ValueError", .type "Exception", .type "BaseException", .type "object"] "ValueError.__new__" = true ∧
  PySem.W.keepIn K (.ref C) = true ∧ PySem.W.subIn K (.ref C) (.type "BaseException") = some true ∧ PySem.W.typeIn K (.ref C) = some (.type "type")
def IntAt (K : PySem.W.Frag) (x : Str) (n : Int) : Prop := ∃ t, PySem.W.nsIn K mainGlobals x = some (some (.int n t))
theorem IntAt.mk {K : PySem.W.Frag} {x : Str} {n : Int} {t : Nat} (h : PySem.W.nsIn K mainGlobals x = some (some (.int n t))) : IntAt K x n := ⟨t, h⟩
def StrAt (K : PySem.W.Frag) (x : Str) (n : Str) : Prop := ∃ t, PySem.W.nsIn K mainGlobals x = some (some (.str n t))
theorem StrAt.mk {K : PySem.W.Frag} {x : Str} {n : Str} {t : Nat} (h : PySem.W.nsIn K mainGlobals x = some (some (.str n t))) : StrAt K x n := ⟨t, h⟩
structure All (K : PySem.W.Frag) (CM CV CG fG CK fK a_SMALL_WIDTH a_SMALL_SEEN : Addr) : Prop where
  d_made_of : DefAt K "made_of" s_made_of
  d_is_mask : DefAt K "is_mask" s_is_mask
  d_check_mask : DefAt K "check_mask" s_check_mask
  d_is_row : DefAt K "is_row" s_is_row
  d_check_row : DefAt K "check_row" s_check_row
  d_check_ring : DefAt K "check_ring" s_check_ring
  d_is_look : DefAt K "is_look" s_is_look
  d_check_look : DefAt K "check_look" s_check_look
  d_check_looks : DefAt K "check_looks" s_check_looks
  d_is_number : DefAt K "is_number" s_is_number
  d_check_number : DefAt K "check_number" s_check_number
  d_check_letters : DefAt K "check_letters" s_check_letters
  d_check_great : DefAt K "check_great" s_check_great
  d_check_small : DefAt K "check_small" s_check_small
  d_check_row_in : DefAt K "check_row_in" s_check_row_in
  d_check_lettered : DefAt K "check_lettered" s_check_lettered
  d_seen : DefAt K "seen" s_seen
  d_together : DefAt K "together" s_together
  d_view_at : DefAt K "view_at" s_view_at
  d_others : DefAt K "others" s_others
  d_views : DefAt K "views" s_views
  d_all_unlike : DefAt K "all_unlike" s_all_unlike
  d_tells : DefAt K "tells" s_tells
  d_grouped : DefAt K "grouped" s_grouped
  d_least_pair : DefAt K "least_pair" s_least_pair
  d_groups : DefAt K "groups" s_groups
  d_alike : DefAt K "alike" s_alike
  d_distance : DefAt K "distance" s_distance
  d_stands : DefAt K "stands" s_stands
  d_words : DefAt K "words" s_words
  d_in_common : DefAt K "in_common" s_in_common
  d_near_bits : DefAt K "near_bits" s_near_bits
  d_window_bits : DefAt K "window_bits" s_window_bits
  d_told_rows : DefAt K "told_rows" s_told_rows
  d_farthest_rows : DefAtD K "farthest_rows" s_farthest_rows 1
  d_longest_rows : DefAt K "longest_rows" s_longest_rows
  d_longest : DefAt K "longest" s_longest
  d_count_rows : DefAt K "count_rows" s_count_rows
  d_next_letters : DefAt K "next_letters" s_next_letters
  d_farthest : DefAt K "farthest" s_farthest
  d_masks_of : DefAt K "masks_of" s_masks_of
  d_masks_to : DefAt K "masks_to" s_masks_to
  d_best_masks : DefAt K "best_masks" s_best_masks
  d_least_masks : DefAt K "least_masks" s_least_masks
  d_fits : DefAt K "fits" s_fits
  d_near : DefAt K "near" s_near
  d_find : DefAt K "find" s_find
  d_first_places : DefAt K "first_places" s_first_places
  d_starts_of : DefAt K "starts_of" s_starts_of
  d_runs_at : DefAt K "runs_at" s_runs_at
  d_looks_needed : DefAt K "looks_needed" s_looks_needed
  d_steps_needed : DefAt K "steps_needed" s_steps_needed
  d_laid_on : DefAt K "laid_on" s_laid_on
  d_unknown_row : DefAt K "unknown_row" s_unknown_row
  d_put_in_order : DefAt K "put_in_order" s_put_in_order
  d_joined : DefAt K "joined" s_joined
  d_first_clash : DefAt K "first_clash" s_first_clash
  d_with_each_look : DefAt K "with_each_look" s_with_each_look
  d_rows_from : DefAt K "rows_from" s_rows_from
  d_sure_from : DefAt K "sure_from" s_sure_from
  d_told_near : DefAt K "told_near" s_told_near
  d_mend : DefAt K "mend" s_mend
  d_weak_letters : DefAt K "weak_letters" s_weak_letters
  d_ring_view : DefAt K "ring_view" s_ring_view
  d_ring_views : DefAt K "ring_views" s_ring_views
  d_ring_tells : DefAt K "ring_tells" s_ring_tells
  d_count_views : DefAt K "count_views" s_count_views
  d_is_least : DefAt K "is_least" s_is_least
  d_longest_ring : DefAt K "longest_ring" s_longest_ring
  d_full_rings : DefAt K "full_rings" s_full_rings
  d__law_taken : DefAt K "_law_taken" s__law_taken
  d__law_turned : DefAt K "_law_turned" s__law_turned
  d__law_viewed : DefAt K "_law_viewed" s__law_viewed
  d__law_long : DefAt K "_law_long" s__law_long
  d__law_joined : DefAt K "_law_joined" s__law_joined
  bb : ∀ x ∈ (["isinstance", "str", "int", "bool", "list", "tuple", "dict", "all", "len", "enumerate", "range", "reversed", "zip", "set", "min", "max", "sorted", "sum"] : List Str), PySem.W.nsIn K mainGlobals x = some none
  h_LETTERS : StrAt K "LETTERS" (PySem.Str.ofString "abcd")
  h_UNREAD : StrAt K "UNREAD" (PySem.Str.ofString "?")
  h_WIDEST : IntAt K "WIDEST" 12
  h_LONGEST : IntAt K "LONGEST" 60
  h_MOST_LOOKS : IntAt K "MOST_LOOKS" 60
  h_WIDEST_FOR_A_ROW : IntAt K "WIDEST_FOR_A_ROW" 9
  h_MOST_IN_ANY_ORDER : IntAt K "MOST_IN_ANY_ORDER" 7
  h_LONGEST_TO_MEND : IntAt K "LONGEST_TO_MEND" 8
  k_SMALL_WIDTH : PySem.W.nsIn K mainGlobals "SMALL_WIDTH" = some (some (.ref a_SMALL_WIDTH)) ∧ TabI K a_SMALL_WIDTH [(1, 12), (2, 8), (3, 5), (4, 4)]
  k_SMALL_SEEN : PySem.W.nsIn K mainGlobals "SMALL_SEEN" = some (some (.ref a_SMALL_SEEN)) ∧ TabI K a_SMALL_SEEN [(1, 12), (2, 4), (3, 2), (4, 1)]
  o_Growth : OwnAt K "Growth" CG fG ["signs", "width", "bits"]
  i_Growth : FnAt K fG "__init__" "Growth.__init__" s_Growth___init__
  i_Growth_begun : MethAt K CG "begun" "Growth.begun" s_Growth_begun
  i_Growth_longer : MethAt K CG "longer" "Growth.longer" s_Growth_longer
  o_Tracker : OwnAt K "Tracker" CK fK ["_found", "_row", "_mask", "_looks"]
  i_Tracker : FnAt K fK "__init__" "Tracker.__init__" s_Tracker___init__
  i_Tracker_see : MethAt K CK "see" "Tracker.see" s_Tracker_see
  i_Tracker_starts : MethAt K CK "starts" "Tracker.starts" s_Tracker_starts
  i_Tracker_places : MethAt K CK "places" "Tracker.places" s_Tracker_places
  i_Tracker_undo : MethAt K CK "undo" "Tracker.undo" s_Tracker_undo
  i_Tracker___len__ : MethAt K CK "__len__" "Tracker.__len__" s_Tracker___len__
  x_BadMask : ErrAt K "BadMask" CM
  x_BadView : ErrAt K "BadView" CV
theorem all_mk {l : PySem.W.OpenLaw} {w : World} {K : PySem.W.Frag} {h : Heap} {mg : Str → Option Value} {fa f CM CV CG fG CK fK a_SMALL_WIDTH a_SMALL_SEEN : Addr} (X : K.In h) (G : h.Ns mainGlobals mg) (hfa : mg "law" = some (.ref fa)) (A : All K CM CV CG fG CK fK a_SMALL_WIDTH a_SMALL_SEEN)
    {od an : Option Addr} {sl : Array (Option Value)} {oc kV dc pm cd ct : Value} (a : PySem.W.nsIn K mainGlobals "law" = some (some (.ref f)))
    (lk : K.lookup f = some ⟨oc, od, .func (PySem.W.fnOf "law" "law" (defArgs s_law) (defBody s_law) (defScope s_law) .none kV dc pm an cd ct), sl⟩) (c : PySem.W.codeIn K cd "law" = true) (k : PySem.W.keepIn K (.ref f) = true) :
    ∃ fd : FuncData, (∀ (s : Shared) (v : Value), BindsTo s fd ⟨[v], []⟩ [("_law_script", v)]) ∧ ∀ base : Heap, K.In base → base.Ns mainGlobals mg → FnOk l.prog w K mg base CX0 17 fa fd ["_law_script"] (spLaw K) := by
  have e := hfa.symm.trans (PySem.W.mg_of X G a)
  cases e
  have F := fun_mk (st := s_law) lk c k
  have N : ∀ x ∈ (["isinstance", "str", "int", "bool", "list", "tuple", "dict", "all", "len", "enumerate", "range", "reversed", "zip", "set", "min", "max", "sorted", "sum"] : List Str), mg x = none := fun x hx => PySem.W.mg_none_of X G (A.bb x hx)
  obtain ⟨g1_BadMask, g2_BadMask, g3_BadMask, g4_BadMask, g5_BadMask⟩ := A.x_BadMask
  obtain ⟨g1_BadView, g2_BadView, g3_BadView, g4_BadView, g5_BadView⟩ := A.x_BadView
  have T : Top K mg CM CV CG fG CK fK a_SMALL_WIDTH a_SMALL_SEEN :=
    { m_isinstance := N _ (by simp), m_str := N _ (by simp), m_int := N _ (by simp), m_bool := N _ (by simp), m_list := N _ (by simp), m_tuple := N _ (by simp), m_dict := N _ (by simp), m_all := N _ (by simp), m_len := N _ (by simp), m_enumerate := N _ (by simp), m_range := N _ (by simp), m_reversed := N _ (by simp), m_zip := N _ (by simp), m_set := N _ (by simp), m_min := N _ (by simp), m_max := N _ (by simp), m_sorted := N _ (by simp), m_sum := N _ (by simp), g_LETTERS := A.h_LETTERS.imp fun _ q => PySem.W.mg_of X G q, g_UNREAD := A.h_UNREAD.imp fun _ q => PySem.W.mg_of X G q, g_WIDEST := A.h_WIDEST.imp fun _ q => PySem.W.mg_of X G q, g_LONGEST := A.h_LONGEST.imp fun _ q => PySem.W.mg_of X G q, g_MOST_LOOKS := A.h_MOST_LOOKS.imp fun _ q => PySem.W.mg_of X G q, g_WIDEST_FOR_A_ROW := A.h_WIDEST_FOR_A_ROW.imp fun _ q => PySem.W.mg_of X G q, g_MOST_IN_ANY_ORDER := A.h_MOST_IN_ANY_ORDER.imp fun _ q => PySem.W.mg_of X G q, g_LONGEST_TO_MEND := A.h_LONGEST_TO_MEND.imp fun _ q => PySem.W.mg_of X G q, g_SMALL_WIDTH := ⟨PySem.W.mg_of X G A.k_SMALL_WIDTH.1, A.k_SMALL_WIDTH.2⟩, g_SMALL_SEEN := ⟨PySem.W.mg_of X G A.k_SMALL_SEEN.1, A.k_SMALL_SEEN.2⟩, c_Growth := A.o_Growth.own X G, t_Growth_init := A.i_Growth.fn fun _ _ _ _ _ _ us hl => match us, hl with | [_, _, _, _], _ => rfl, t_Growth_begun := A.i_Growth_begun.meth fun _ _ _ _ _ _ us hl => match us, hl with | [_, _], _ => rfl, t_Growth_longer := A.i_Growth_longer.meth fun _ _ _ _ _ _ us hl => match us, hl with | [_, _], _ => rfl, c_Tracker := A.o_Tracker.own X G, t_Tracker_init := A.i_Tracker.fn fun _ _ _ _ _ _ us hl => match us, hl with | [_, _, _], _ => rfl, t_Tracker_see := A.i_Tracker_see.meth fun _ _ _ _ _ _ us hl => match us, hl with | [_, _], _ => rfl, t_Tracker_starts := A.i_Tracker_starts.meth fun _ _ _ _ _ _ us hl => match us, hl with | [_], _ => rfl, t_Tracker_places := A.i_Tracker_places.meth fun _ _ _ _ _ _ us hl => match us, hl with | [_], _ => rfl, t_Tracker_undo := A.i_Tracker_undo.meth fun _ _ _ _ _ _ us hl => match us, hl with | [_], _ => rfl, t_Tracker___len__ := A.i_Tracker___len__.meth fun _ _ _ _ _ _ us hl => match us, hl with | [_], _ => rfl, e_BadMask := ⟨PySem.W.mg_of X G g1_BadMask, g2_BadMask, g3_BadMask, g4_BadMask, g5_BadMask⟩, e_BadView := ⟨PySem.W.mg_of X G g1_BadView, g2_BadView, g3_BadView, g4_BadView, g5_BadView⟩ }
  refine ⟨PySem.W.fnOf "law" "law" (defArgs s_law) (defBody s_law) (defScope s_law) .none kV dc pm an cd ct, fun s v => .of_eq rfl, fun base _ _ => ?_⟩
  have e_made_of := A.d_made_of.ent (ps := p_made_of) X G fun _ _ _ _ _ _ us hl => match us, hl with | [_, _], _ => rfl
  have e_is_mask := A.d_is_mask.ent (ps := p_is_mask) X G fun _ _ _ _ _ _ us hl => match us, hl with | [_], _ => rfl
  have e_check_mask := A.d_check_mask.ent (ps := p_check_mask) X G fun _ _ _ _ _ _ us hl => match us, hl with | [_], _ => rfl
  have e_is_row := A.d_is_row.ent (ps := p_is_row) X G fun _ _ _ _ _ _ us hl => match us, hl with | [_], _ => rfl
  have e_check_row := A.d_check_row.ent (ps := p_check_row) X G fun _ _ _ _ _ _ us hl => match us, hl with | [_], _ => rfl
  have e_check_ring := A.d_check_ring.ent (ps := p_check_ring) X G fun _ _ _ _ _ _ us hl => match us, hl with | [_], _ => rfl
  have e_is_look := A.d_is_look.ent (ps := p_is_look) X G fun _ _ _ _ _ _ us hl => match us, hl with | [_, _], _ => rfl
  have e_check_look := A.d_check_look.ent (ps := p_check_look) X G fun _ _ _ _ _ _ us hl => match us, hl with | [_, _], _ => rfl
  have e_check_looks := A.d_check_looks.ent (ps := p_check_looks) X G fun _ _ _ _ _ _ us hl => match us, hl with | [_, _], _ => rfl
  have e_is_number := A.d_is_number.ent (ps := p_is_number) X G fun _ _ _ _ _ _ us hl => match us, hl with | [_, _, _], _ => rfl
  have e_check_number := A.d_check_number.ent (ps := p_check_number) X G fun _ _ _ _ _ _ us hl => match us, hl with | [_, _, _], _ => rfl
  have e_check_letters := A.d_check_letters.ent (ps := p_check_letters) X G fun _ _ _ _ _ _ us hl => match us, hl with | [_], _ => rfl
  have e_check_great := A.d_check_great.ent (ps := p_check_great) X G fun _ _ _ _ _ _ us hl => match us, hl with | [_, _, _], _ => rfl
  have e_check_small := A.d_check_small.ent (ps := p_check_small) X G fun _ _ _ _ _ _ us hl => match us, hl with | [_, _], _ => rfl
  have e_check_row_in := A.d_check_row_in.ent (ps := p_check_row_in) X G fun _ _ _ _ _ _ us hl => match us, hl with | [_, _], _ => rfl
  have e_check_lettered := A.d_check_lettered.ent (ps := p_check_lettered) X G fun _ _ _ _ _ _ us hl => match us, hl with | [_, _, _], _ => rfl
  have e_seen := A.d_seen.ent (ps := p_seen) X G fun _ _ _ _ _ _ us hl => match us, hl with | [_], _ => rfl
  have e_together := A.d_together.ent (ps := p_together) X G fun _ _ _ _ _ _ us hl => match us, hl with | [_, _, _], _ => rfl
  have e_view_at := A.d_view_at.ent (ps := p_view_at) X G fun _ _ _ _ _ _ us hl => match us, hl with | [_, _, _], _ => rfl
  have e_others := A.d_others.ent (ps := p_others) X G fun _ _ _ _ _ _ us hl => match us, hl with | [_, _], _ => rfl
  have e_views := A.d_views.ent (ps := p_views) X G fun _ _ _ _ _ _ us hl => match us, hl with | [_, _], _ => rfl
  have e_all_unlike := A.d_all_unlike.ent (ps := p_all_unlike) X G fun _ _ _ _ _ _ us hl => match us, hl with | [_], _ => rfl
  have e_tells := A.d_tells.ent (ps := p_tells) X G fun _ _ _ _ _ _ us hl => match us, hl with | [_, _], _ => rfl
  have e_grouped := A.d_grouped.ent (ps := p_grouped) X G fun _ _ _ _ _ _ us hl => match us, hl with | [_], _ => rfl
  have e_least_pair := A.d_least_pair.ent (ps := p_least_pair) X G fun _ _ _ _ _ _ us hl => match us, hl with | [_], _ => rfl
  have e_groups := A.d_groups.ent (ps := p_groups) X G fun _ _ _ _ _ _ us hl => match us, hl with | [_, _], _ => rfl
  have e_alike := A.d_alike.ent (ps := p_alike) X G fun _ _ _ _ _ _ us hl => match us, hl with | [_, _], _ => rfl
  have e_distance := A.d_distance.ent (ps := p_distance) X G fun _ _ _ _ _ _ us hl => match us, hl with | [_, _], _ => rfl
  have e_stands := A.d_stands.ent (ps := p_stands) X G fun _ _ _ _ _ _ us hl => match us, hl with | [_, _, _, _], _ => rfl
  have e_words := A.d_words.ent (ps := p_words) X G fun _ _ _ _ _ _ us hl => match us, hl with | [_, _], _ => rfl
  have e_in_common := A.d_in_common.ent (ps := p_in_common) X G fun _ _ _ _ _ _ us hl => match us, hl with | [_, _], _ => rfl
  have e_near_bits := A.d_near_bits.ent (ps := p_near_bits) X G fun _ _ _ _ _ _ us hl => match us, hl with | [_, _, _], _ => rfl
  have e_window_bits := A.d_window_bits.ent (ps := p_window_bits) X G fun _ _ _ _ _ _ us hl => match us, hl with | [_, _, _], _ => rfl
  have e_told_rows := A.d_told_rows.ent (ps := p_told_rows) X G fun _ _ _ _ _ _ us hl => match us, hl with | [_, _, _], _ => rfl
  have e_farthest_rows := A.d_farthest_rows.ent (ps := p_farthest_rows) (n := 3) X G rfl (fun _ _ _ _ _ _ _ us its h1 h2 => match us, its, h1, h2 with | [_, _, _, _], [_], _, _ => ⟨_, rfl, rfl⟩) (fun _ _ _ _ _ _ _ us its h1 h2 => match us, its, h1, h2 with | [_, _, _], [_], _, _ => ⟨_, rfl, rfl⟩)
  have e_longest_rows := A.d_longest_rows.ent (ps := p_longest_rows) X G fun _ _ _ _ _ _ us hl => match us, hl with | [_, _], _ => rfl
  have e_longest := A.d_longest.ent (ps := p_longest) X G fun _ _ _ _ _ _ us hl => match us, hl with | [_, _], _ => rfl
  have e_count_rows := A.d_count_rows.ent (ps := p_count_rows) X G fun _ _ _ _ _ _ us hl => match us, hl with | [_, _, _], _ => rfl
  have e_next_letters := A.d_next_letters.ent (ps := p_next_letters) X G fun _ _ _ _ _ _ us hl => match us, hl with | [_, _, _], _ => rfl
  have e_farthest := A.d_farthest.ent (ps := p_farthest) X G fun _ _ _ _ _ _ us hl => match us, hl with | [_, _, _], _ => rfl
  have e_masks_of := A.d_masks_of.ent (ps := p_masks_of) X G fun _ _ _ _ _ _ us hl => match us, hl with | [_], _ => rfl
  have e_masks_to := A.d_masks_to.ent (ps := p_masks_to) X G fun _ _ _ _ _ _ us hl => match us, hl with | [_], _ => rfl
  have e_best_masks := A.d_best_masks.ent (ps := p_best_masks) X G fun _ _ _ _ _ _ us hl => match us, hl with | [_, _, _], _ => rfl
  have e_least_masks := A.d_least_masks.ent (ps := p_least_masks) X G fun _ _ _ _ _ _ us hl => match us, hl with | [_, _], _ => rfl
  have e_fits := A.d_fits.ent (ps := p_fits) X G fun _ _ _ _ _ _ us hl => match us, hl with | [_, _], _ => rfl
  have e_near := A.d_near.ent (ps := p_near) X G fun _ _ _ _ _ _ us hl => match us, hl with | [_, _, _, _], _ => rfl
  have e_find := A.d_find.ent (ps := p_find) X G fun _ _ _ _ _ _ us hl => match us, hl with | [_, _, _], _ => rfl
  have e_first_places := A.d_first_places.ent (ps := p_first_places) X G fun _ _ _ _ _ _ us hl => match us, hl with | [_, _], _ => rfl
  have e_starts_of := A.d_starts_of.ent (ps := p_starts_of) X G fun _ _ _ _ _ _ us hl => match us, hl with | [_, _, _], _ => rfl
  have e_runs_at := A.d_runs_at.ent (ps := p_runs_at) X G fun _ _ _ _ _ _ us hl => match us, hl with | [_, _], _ => rfl
  have e_looks_needed := A.d_looks_needed.ent (ps := p_looks_needed) X G fun _ _ _ _ _ _ us hl => match us, hl with | [_, _], _ => rfl
  have e_steps_needed := A.d_steps_needed.ent (ps := p_steps_needed) X G fun _ _ _ _ _ _ us hl => match us, hl with | [_, _], _ => rfl
  have e_laid_on := A.d_laid_on.ent (ps := p_laid_on) X G fun _ _ _ _ _ _ us hl => match us, hl with | [_, _, _, _], _ => rfl
  have e_unknown_row := A.d_unknown_row.ent (ps := p_unknown_row) X G fun _ _ _ _ _ _ us hl => match us, hl with | [_, _], _ => rfl
  have e_put_in_order := A.d_put_in_order.ent (ps := p_put_in_order) X G fun _ _ _ _ _ _ us hl => match us, hl with | [_, _], _ => rfl
  have e_joined := A.d_joined.ent (ps := p_joined) X G fun _ _ _ _ _ _ us hl => match us, hl with | [_, _], _ => rfl
  have e_first_clash := A.d_first_clash.ent (ps := p_first_clash) X G fun _ _ _ _ _ _ us hl => match us, hl with | [_, _], _ => rfl
  have e_with_each_look := A.d_with_each_look.ent (ps := p_with_each_look) X G fun _ _ _ _ _ _ us hl => match us, hl with | [_, _, _], _ => rfl
  have e_rows_from := A.d_rows_from.ent (ps := p_rows_from) X G fun _ _ _ _ _ _ us hl => match us, hl with | [_, _], _ => rfl
  have e_sure_from := A.d_sure_from.ent (ps := p_sure_from) X G fun _ _ _ _ _ _ us hl => match us, hl with | [_, _], _ => rfl
  have e_told_near := A.d_told_near.ent (ps := p_told_near) X G fun _ _ _ _ _ _ us hl => match us, hl with | [_, _, _, _], _ => rfl
  have e_mend := A.d_mend.ent (ps := p_mend) X G fun _ _ _ _ _ _ us hl => match us, hl with | [_, _, _], _ => rfl
  have e_weak_letters := A.d_weak_letters.ent (ps := p_weak_letters) X G fun _ _ _ _ _ _ us hl => match us, hl with | [_, _, _], _ => rfl
  have e_ring_view := A.d_ring_view.ent (ps := p_ring_view) X G fun _ _ _ _ _ _ us hl => match us, hl with | [_, _, _], _ => rfl
  have e_ring_views := A.d_ring_views.ent (ps := p_ring_views) X G fun _ _ _ _ _ _ us hl => match us, hl with | [_, _], _ => rfl
  have e_ring_tells := A.d_ring_tells.ent (ps := p_ring_tells) X G fun _ _ _ _ _ _ us hl => match us, hl with | [_, _], _ => rfl
  have e_count_views := A.d_count_views.ent (ps := p_count_views) X G fun _ _ _ _ _ _ us hl => match us, hl with | [_, _], _ => rfl
  have e_is_least := A.d_is_least.ent (ps := p_is_least) X G fun _ _ _ _ _ _ us hl => match us, hl with | [_], _ => rfl
  have e_longest_ring := A.d_longest_ring.ent (ps := p_longest_ring) X G fun _ _ _ _ _ _ us hl => match us, hl with | [_, _], _ => rfl
  have e_full_rings := A.d_full_rings.ent (ps := p_full_rings) X G fun _ _ _ _ _ _ us hl => match us, hl with | [_, _], _ => rfl
  have e__law_taken := A.d__law_taken.ent (ps := p__law_taken) X G fun _ _ _ _ _ _ us hl => match us, hl with | [_, _], _ => rfl
  have e__law_turned := A.d__law_turned.ent (ps := p__law_turned) X G fun _ _ _ _ _ _ us hl => match us, hl with | [_, _], _ => rfl
  have e__law_viewed := A.d__law_viewed.ent (ps := p__law_viewed) X G fun _ _ _ _ _ _ us hl => match us, hl with | [_], _ => rfl
  have e__law_long := A.d__law_long.ent (ps := p__law_long) X G fun _ _ _ _ _ _ us hl => match us, hl with | [], _ => rfl
  have e__law_joined := A.d__law_joined.ent (ps := p__law_joined) X G fun _ _ _ _ _ _ us hl => match us, hl with | [_], _ => rfl
  have c__law_taken := ok_taken (P := l.prog) (w := w) (base := base) e__law_taken T
  have c_made_of := ok_made_of (P := l.prog) (w := w) (base := base) e_made_of T
  have c_is_mask := ok_is_mask e_is_mask T c_made_of
  have c_check_mask := ok_check_mask e_check_mask T c_is_mask
  have c_seen := ok_seen e_seen T c_check_mask
  have c_is_number := ok_is_number (P := l.prog) (w := w) (base := base) e_is_number T
  have c_check_number := ok_numC e_check_number T c_is_number
  have c_together := ok_togC e_together T (maskC c_check_mask) c_check_number (seen0 c_seen)
  have c__law_turned := ok_turned (P := l.prog) (w := w) (base := base) e__law_turned T
  have c_is_row := ok_is_row e_is_row T c_made_of
  have c_check_row := ok_check_row e_check_row T c_is_row
  have c_view_at := ok_view_at (P := l.prog) (w := w) (base := base) e_view_at T
  have c_views := ok_views e_views T c_check_row (seen0 c_seen) c_view_at
  have c_all_unlike := ok_unlikeA (P := l.prog) (w := w) (base := base) e_all_unlike T
  have c_tells := ok_tells e_tells T c_views (unlikeS c_all_unlike)
  have c_grouped := ok_grouped (P := l.prog) (w := w) (base := base) e_grouped T
  have c_least_pair := ok_least_pair e_least_pair T c_grouped
  have c_alike := ok_alike e_alike T c_views c_least_pair
  have c_groups := ok_groups e_groups T c_views c_grouped
  have c_others := ok_others (P := l.prog) (w := w) (base := base) e_others T
  have c_distance := ok_distance e_distance T c_views c_others
  have c_stands := ok_standsG e_stands T c_distance c_check_number
  have c_is_look := ok_is_look e_is_look T c_made_of
  have c_check_look := ok_check_look e_check_look T c_is_look
  have c_near := ok_nearC e_near T c_views (look0 c_check_look) c_check_number c_others
  have c_find := ok_findC e_find T c_near
  have c_first_places := ok_firsts (P := l.prog) (w := w) (base := base) e_first_places T
  have c_runs_at := ok_runs e_runs_at T c_first_places
  have c_looks_needed := ok_needed e_looks_needed T c_runs_at (unlikeT c_all_unlike)
  have c_steps_needed := ok_stepsN e_steps_needed T c_looks_needed c_views
  have c__law_viewed := ok_lawviewed e__law_viewed T (seen0 c_seen) c_together c__law_turned c_views c_tells c_alike c_groups c_distance c_stands c_find c_near c_steps_needed
  have c_check_letters := ok_letters e_check_letters T c_is_number
  have c_check_great := ok_great (P := l.prog) (w := w) (base := base) e_check_great T
  have c_check_small := ok_small e_check_small T c_check_mask c_check_letters c_check_great
  have c_words := ok_words (P := l.prog) (w := w) (base := base) e_words T
  have c_near_bits := ok_near_bits e_near_bits T c_others
  have c_window_bits := ok_bits e_window_bits T (seen0 c_seen) c_words c_view_at c_near_bits
  have c_farthest_rows := ok_far e_farthest_rows T c_window_bits
  have c_longest_rows := ok_long_rows e_longest_rows T (small0 c_check_small) c_farthest_rows
  have c_longest := ok_longest e_longest T c_longest_rows
  have c_told_rows := ok_told e_told_rows T c_window_bits
  have c_count_rows := ok_countC e_count_rows T (small0 c_check_small) c_check_number c_told_rows
  have c_check_row_in := ok_row_in e_check_row_in T c_check_row c_made_of
  have c_check_lettered := ok_letteredC e_check_lettered T c_check_mask c_check_letters c_check_row_in
  have c_next_letters := ok_nextC e_next_letters T (lettered0 c_check_lettered) c_tells c_views (seen0 c_seen) c_view_at
  have c_farthest := ok_farC e_farthest T (small0 c_check_small) c_check_row_in c_tells c_farthest_rows
  have c_check_ring := ok_check_ring e_check_ring T c_check_row
  have c_ring_view := ok_ring_view (P := l.prog) (w := w) (base := base) e_ring_view T
  have c_ring_views := ok_ring_views e_ring_views T c_check_ring (seen0 c_seen) c_ring_view
  have c_ring_tells := ok_ring_tells e_ring_tells T c_ring_views (unlikeS c_all_unlike)
  have c_count_views := ok_cviews e_count_views T c_words
  have c_longest_ring := ok_lring e_longest_ring T (small0 c_check_small) c_count_views c_told_rows c_ring_tells
  have c_is_least := ok_leastR (P := l.prog) (w := w) (base := base) e_is_least T
  have c_full_rings := ok_frings e_full_rings T (small0 c_check_small) c_told_rows c_count_views c_is_least c_ring_tells
  have c_masks_of := ok_masks_of e_masks_of T c_words
  have c_masks_to := ok_masks_to e_masks_to T c_masks_of
  have c_best_masks := ok_best e_best_masks T c_check_number c_check_letters c_check_great c_masks_to c_longest
  have c_least_masks := ok_leastC e_least_masks T c_check_row c_check_number c_masks_to c_tells
  have c__law_long := ok_lawlong e__law_long T c_longest c_longest_rows c_count_rows c_next_letters c_farthest c_ring_views c_ring_tells c_longest_ring c_full_rings c_best_masks c_least_masks
  have c_check_looks := ok_check_looks e_check_looks T c_is_look
  have c_unknown_row := ok_unknown (P := l.prog) (w := w) (base := base) e_unknown_row T
  have c_laid_on := ok_laid_on (P := l.prog) (w := w) (base := base) e_laid_on T
  have c_put_in_order := ok_put e_put_in_order T (seen0 c_seen) c_check_looks c_unknown_row c_laid_on
  have c_joined := ok_joined e_joined T c_put_in_order
  have c_first_clash := ok_clash e_first_clash T c_put_in_order
  have c_with_each_look := ok_each e_with_each_look T c_laid_on
  have c_rows_from := ok_rowsC e_rows_from T (seen0 c_seen) c_check_looks c_unknown_row c_with_each_look
  have c_in_common := ok_common (P := l.prog) (w := w) (base := base) e_in_common T
  have c_sure_from := ok_sureF e_sure_from T c_rows_from c_in_common
  have c_told_near := ok_nearMd e_told_near T (ok_othersB (P := l.prog) (w := w) (base := base) e_others T) c_tells
  have c_mend := ok_mend e_mend T (lettered0 c_check_lettered) c_told_near
  have c_weak_letters := ok_weak e_weak_letters T (lettered0 c_check_lettered) c_tells
  have c_fits := ok_fits e_fits T c_others
  have c_starts_of := ok_starts e_starts_of T c_first_places c_fits
  have c__law_joined := ok_lawjoined e__law_joined T c__law_turned c_joined c_first_clash c_rows_from c_sure_from c_mend c_weak_letters (ok_tinit T c_views) (ok_tplaces T (ok_tstarts T c_starts_of)) (ok_tundo (P := l.prog) (w := w) (base := base) T) (ok_tstarts T c_starts_of) (ok_tlen (P := l.prog) (w := w) (base := base) T) (see0E (ok_tsee T (ok_tstarts T c_starts_of) c_check_look))
  exact ok_law F T c__law_taken c__law_viewed c__law_long c__law_joined
end K24
open PySem PySem.W PyProof.Rows
set_option maxHeartbeats 0
theorem PySem.Challenge.cw_holedwindows_k24_known_windows_holds : PySem.Challenge.rw_holedwindows_k24_known_windows.Holds := by
  w_on; o_law; k_head; (case hw => w_witness2)
  k_fill
  refine L2.walk_of (l := PySem.Challenge.rw_holedwindows_k24_known_windows) (n := 63) (k := 17) (x := "_law_script") (CX := fun _ => L2.CX0) (sp := fun w => K24.spLaw _) rfl (by decide) rfl ⟨rfl, by decide, by decide⟩ (fun w h Y => PySem.W.kIn_of Y) ?F (fun _ _ a ns hl _ hS => ⟨a, ns, rfl, hS, hl, fun _ => rfl⟩) (fun _ _ _ _ _ h => h)
  case F =>
    intro w mg fa h KX G hmg
    refine' K24.all_mk KX G hmg ?A ?a ?l ?c ?k
    (case a => k_is); (case l => k_is); (case c => k_is); (case k => k_is)
    case A =>
      refine' ⟨?zd0, ?zd1, ?zd2, ?zd3, ?zd4, ?zd5, ?zd6, ?zd7, ?zd8, ?zd9, ?zd10, ?zd11, ?zd12, ?zd13, ?zd14, ?zd15, ?zd16, ?zd17, ?zd18, ?zd19, ?zd20, ?zd21, ?zd22, ?zd23, ?zd24, ?zd25, ?zd26, ?zd27, ?zd28, ?zd29, ?zd30, ?zd31, ?zd32, ?zd33, ?zd34, ?zd35, ?zd36, ?zd37, ?zd38, ?zd39, ?zd40, ?zd41, ?zd42, ?zd43, ?zd44, ?zd45, ?zd46, ?zd47, ?zd48, ?zd49, ?zd50, ?zd51, ?zd52, ?zd53, ?zd54, ?zd55, ?zd56, ?zd57, ?zd58, ?zd59, ?zd60, ?zd61, ?zd62, ?zd63, ?zd64, ?zd65, ?zd66, ?zd67, ?zd68, ?zd69, ?zd70, ?zd71, ?zd72, ?zd73, ?zd74, ?zbb, ?zh0, ?zh1, ?zh2, ?zh3, ?zh4, ?zh5, ?zh6, ?zh7, ?zk0, ?zk1, ?zo0, ?zi0, ?zm0_0, ?zm0_1, ?zo1, ?zi1, ?zm1_0, ?zm1_1, ?zm1_2, ?zm1_3, ?zm1_4, ?zx0, ?zx1⟩
      (case zd0 => refine' K24.DefAt.mk ?x1 ?x2 ?x3 ?x4; (case x1 => k_is); (case x2 => k_is); (case x3 => k_is); (case x4 => k_is))
      (case zd1 => refine' K24.DefAt.mk ?x1 ?x2 ?x3 ?x4; (case x1 => k_is); (case x2 => k_is); (case x3 => k_is); (case x4 => k_is))
      (case zd2 => refine' K24.DefAt.mk ?x1 ?x2 ?x3 ?x4; (case x1 => k_is); (case x2 => k_is); (case x3 => k_is); (case x4 => k_is))
      (case zd3 => refine' K24.DefAt.mk ?x1 ?x2 ?x3 ?x4; (case x1 => k_is); (case x2 => k_is); (case x3 => k_is); (case x4 => k_is))
      (case zd4 => refine' K24.DefAt.mk ?x1 ?x2 ?x3 ?x4; (case x1 => k_is); (case x2 => k_is); (case x3 => k_is); (case x4 => k_is))
      (case zd5 => refine' K24.DefAt.mk ?x1 ?x2 ?x3 ?x4; (case x1 => k_is); (case x2 => k_is); (case x3 => k_is); (case x4 => k_is))
      (case zd6 => refine' K24.DefAt.mk ?x1 ?x2 ?x3 ?x4; (case x1 => k_is); (case x2 => k_is); (case x3 => k_is); (case x4 => k_is))
      (case zd7 => refine' K24.DefAt.mk ?x1 ?x2 ?x3 ?x4; (case x1 => k_is); (case x2 => k_is); (case x3 => k_is); (case x4 => k_is))
      (case zd8 => refine' K24.DefAt.mk ?x1 ?x2 ?x3 ?x4; (case x1 => k_is); (case x2 => k_is); (case x3 => k_is); (case x4 => k_is))
      (case zd9 => refine' K24.DefAt.mk ?x1 ?x2 ?x3 ?x4; (case x1 => k_is); (case x2 => k_is); (case x3 => k_is); (case x4 => k_is))
      (case zd10 => refine' K24.DefAt.mk ?x1 ?x2 ?x3 ?x4; (case x1 => k_is); (case x2 => k_is); (case x3 => k_is); (case x4 => k_is))
      (case zd11 => refine' K24.DefAt.mk ?x1 ?x2 ?x3 ?x4; (case x1 => k_is); (case x2 => k_is); (case x3 => k_is); (case x4 => k_is))
      (case zd12 => refine' K24.DefAt.mk ?x1 ?x2 ?x3 ?x4; (case x1 => k_is); (case x2 => k_is); (case x3 => k_is); (case x4 => k_is))
      (case zd13 => refine' K24.DefAt.mk ?x1 ?x2 ?x3 ?x4; (case x1 => k_is); (case x2 => k_is); (case x3 => k_is); (case x4 => k_is))
      (case zd14 => refine' K24.DefAt.mk ?x1 ?x2 ?x3 ?x4; (case x1 => k_is); (case x2 => k_is); (case x3 => k_is); (case x4 => k_is))
      (case zd15 => refine' K24.DefAt.mk ?x1 ?x2 ?x3 ?x4; (case x1 => k_is); (case x2 => k_is); (case x3 => k_is); (case x4 => k_is))
      (case zd16 => refine' K24.DefAt.mk ?x1 ?x2 ?x3 ?x4; (case x1 => k_is); (case x2 => k_is); (case x3 => k_is); (case x4 => k_is))
      (case zd17 => refine' K24.DefAt.mk ?x1 ?x2 ?x3 ?x4; (case x1 => k_is); (case x2 => k_is); (case x3 => k_is); (case x4 => k_is))
      (case zd18 => refine' K24.DefAt.mk ?x1 ?x2 ?x3 ?x4; (case x1 => k_is); (case x2 => k_is); (case x3 => k_is); (case x4 => k_is))
      (case zd19 => refine' K24.DefAt.mk ?x1 ?x2 ?x3 ?x4; (case x1 => k_is); (case x2 => k_is); (case x3 => k_is); (case x4 => k_is))
      (case zd20 => refine' K24.DefAt.mk ?x1 ?x2 ?x3 ?x4; (case x1 => k_is); (case x2 => k_is); (case x3 => k_is); (case x4 => k_is))
      (case zd21 => refine' K24.DefAt.mk ?x1 ?x2 ?x3 ?x4; (case x1 => k_is); (case x2 => k_is); (case x3 => k_is); (case x4 => k_is))
      (case zd22 => refine' K24.DefAt.mk ?x1 ?x2 ?x3 ?x4; (case x1 => k_is); (case x2 => k_is); (case x3 => k_is); (case x4 => k_is))
      (case zd23 => refine' K24.DefAt.mk ?x1 ?x2 ?x3 ?x4; (case x1 => k_is); (case x2 => k_is); (case x3 => k_is); (case x4 => k_is))
      (case zd24 => refine' K24.DefAt.mk ?x1 ?x2 ?x3 ?x4; (case x1 => k_is); (case x2 => k_is); (case x3 => k_is); (case x4 => k_is))
      (case zd25 => refine' K24.DefAt.mk ?x1 ?x2 ?x3 ?x4; (case x1 => k_is); (case x2 => k_is); (case x3 => k_is); (case x4 => k_is))
      (case zd26 => refine' K24.DefAt.mk ?x1 ?x2 ?x3 ?x4; (case x1 => k_is); (case x2 => k_is); (case x3 => k_is); (case x4 => k_is))
      (case zd27 => refine' K24.DefAt.mk ?x1 ?x2 ?x3 ?x4; (case x1 => k_is); (case x2 => k_is); (case x3 => k_is); (case x4 => k_is))
      (case zd28 => refine' K24.DefAt.mk ?x1 ?x2 ?x3 ?x4; (case x1 => k_is); (case x2 => k_is); (case x3 => k_is); (case x4 => k_is))
      (case zd29 => refine' K24.DefAt.mk ?x1 ?x2 ?x3 ?x4; (case x1 => k_is); (case x2 => k_is); (case x3 => k_is); (case x4 => k_is))
      (case zd30 => refine' K24.DefAt.mk ?x1 ?x2 ?x3 ?x4; (case x1 => k_is); (case x2 => k_is); (case x3 => k_is); (case x4 => k_is))
      (case zd31 => refine' K24.DefAt.mk ?x1 ?x2 ?x3 ?x4; (case x1 => k_is); (case x2 => k_is); (case x3 => k_is); (case x4 => k_is))
      (case zd32 => refine' K24.DefAt.mk ?x1 ?x2 ?x3 ?x4; (case x1 => k_is); (case x2 => k_is); (case x3 => k_is); (case x4 => k_is))
      (case zd33 => refine' K24.DefAt.mk ?x1 ?x2 ?x3 ?x4; (case x1 => k_is); (case x2 => k_is); (case x3 => k_is); (case x4 => k_is))
      (case zd34 => refine' Qt.DefAtD.mk ?x1 ?x2 ?x3 ?x4 ?x5 ?x6; (case x1 => k_is); (case x2 => k_is); (case x3 => k_is); (case x4 => k_is); (case x5 => k_is); (case x6 => exact ⟨_, rfl⟩))
      (case zd35 => refine' K24.DefAt.mk ?x1 ?x2 ?x3 ?x4; (case x1 => k_is); (case x2 => k_is); (case x3 => k_is); (case x4 => k_is))
      (case zd36 => refine' K24.DefAt.mk ?x1 ?x2 ?x3 ?x4; (case x1 => k_is); (case x2 => k_is); (case x3 => k_is); (case x4 => k_is))
      (case zd37 => refine' K24.DefAt.mk ?x1 ?x2 ?x3 ?x4; (case x1 => k_is); (case x2 => k_is); (case x3 => k_is); (case x4 => k_is))
      (case zd38 => refine' K24.DefAt.mk ?x1 ?x2 ?x3 ?x4; (case x1 => k_is); (case x2 => k_is); (case x3 => k_is); (case x4 => k_is))
      (case zd39 => refine' K24.DefAt.mk ?x1 ?x2 ?x3 ?x4; (case x1 => k_is); (case x2 => k_is); (case x3 => k_is); (case x4 => k_is))
      (case zd40 => refine' K24.DefAt.mk ?x1 ?x2 ?x3 ?x4; (case x1 => k_is); (case x2 => k_is); (case x3 => k_is); (case x4 => k_is))
      (case zd41 => refine' K24.DefAt.mk ?x1 ?x2 ?x3 ?x4; (case x1 => k_is); (case x2 => k_is); (case x3 => k_is); (case x4 => k_is))
      (case zd42 => refine' K24.DefAt.mk ?x1 ?x2 ?x3 ?x4; (case x1 => k_is); (case x2 => k_is); (case x3 => k_is); (case x4 => k_is))
      (case zd43 => refine' K24.DefAt.mk ?x1 ?x2 ?x3 ?x4; (case x1 => k_is); (case x2 => k_is); (case x3 => k_is); (case x4 => k_is))
      (case zd44 => refine' K24.DefAt.mk ?x1 ?x2 ?x3 ?x4; (case x1 => k_is); (case x2 => k_is); (case x3 => k_is); (case x4 => k_is))
      (case zd45 => refine' K24.DefAt.mk ?x1 ?x2 ?x3 ?x4; (case x1 => k_is); (case x2 => k_is); (case x3 => k_is); (case x4 => k_is))
      (case zd46 => refine' K24.DefAt.mk ?x1 ?x2 ?x3 ?x4; (case x1 => k_is); (case x2 => k_is); (case x3 => k_is); (case x4 => k_is))
      (case zd47 => refine' K24.DefAt.mk ?x1 ?x2 ?x3 ?x4; (case x1 => k_is); (case x2 => k_is); (case x3 => k_is); (case x4 => k_is))
      (case zd48 => refine' K24.DefAt.mk ?x1 ?x2 ?x3 ?x4; (case x1 => k_is); (case x2 => k_is); (case x3 => k_is); (case x4 => k_is))
      (case zd49 => refine' K24.DefAt.mk ?x1 ?x2 ?x3 ?x4; (case x1 => k_is); (case x2 => k_is); (case x3 => k_is); (case x4 => k_is))
      (case zd50 => refine' K24.DefAt.mk ?x1 ?x2 ?x3 ?x4; (case x1 => k_is); (case x2 => k_is); (case x3 => k_is); (case x4 => k_is))
      (case zd51 => refine' K24.DefAt.mk ?x1 ?x2 ?x3 ?x4; (case x1 => k_is); (case x2 => k_is); (case x3 => k_is); (case x4 => k_is))
      (case zd52 => refine' K24.DefAt.mk ?x1 ?x2 ?x3 ?x4; (case x1 => k_is); (case x2 => k_is); (case x3 => k_is); (case x4 => k_is))
      (case zd53 => refine' K24.DefAt.mk ?x1 ?x2 ?x3 ?x4; (case x1 => k_is); (case x2 => k_is); (case x3 => k_is); (case x4 => k_is))
      (case zd54 => refine' K24.DefAt.mk ?x1 ?x2 ?x3 ?x4; (case x1 => k_is); (case x2 => k_is); (case x3 => k_is); (case x4 => k_is))
      (case zd55 => refine' K24.DefAt.mk ?x1 ?x2 ?x3 ?x4; (case x1 => k_is); (case x2 => k_is); (case x3 => k_is); (case x4 => k_is))
      (case zd56 => refine' K24.DefAt.mk ?x1 ?x2 ?x3 ?x4; (case x1 => k_is); (case x2 => k_is); (case x3 => k_is); (case x4 => k_is))
      (case zd57 => refine' K24.DefAt.mk ?x1 ?x2 ?x3 ?x4; (case x1 => k_is); (case x2 => k_is); (case x3 => k_is); (case x4 => k_is))
      (case zd58 => refine' K24.DefAt.mk ?x1 ?x2 ?x3 ?x4; (case x1 => k_is); (case x2 => k_is); (case x3 => k_is); (case x4 => k_is))
      (case zd59 => refine' K24.DefAt.mk ?x1 ?x2 ?x3 ?x4; (case x1 => k_is); (case x2 => k_is); (case x3 => k_is); (case x4 => k_is))
      (case zd60 => refine' K24.DefAt.mk ?x1 ?x2 ?x3 ?x4; (case x1 => k_is); (case x2 => k_is); (case x3 => k_is); (case x4 => k_is))
      (case zd61 => refine' K24.DefAt.mk ?x1 ?x2 ?x3 ?x4; (case x1 => k_is); (case x2 => k_is); (case x3 => k_is); (case x4 => k_is))
      (case zd62 => refine' K24.DefAt.mk ?x1 ?x2 ?x3 ?x4; (case x1 => k_is); (case x2 => k_is); (case x3 => k_is); (case x4 => k_is))
      (case zd63 => refine' K24.DefAt.mk ?x1 ?x2 ?x3 ?x4; (case x1 => k_is); (case x2 => k_is); (case x3 => k_is); (case x4 => k_is))
      (case zd64 => refine' K24.DefAt.mk ?x1 ?x2 ?x3 ?x4; (case x1 => k_is); (case x2 => k_is); (case x3 => k_is); (case x4 => k_is))
      (case zd65 => refine' K24.DefAt.mk ?x1 ?x2 ?x3 ?x4; (case x1 => k_is); (case x2 => k_is); (case x3 => k_is); (case x4 => k_is))
      (case zd66 => refine' K24.DefAt.mk ?x1 ?x2 ?x3 ?x4; (case x1 => k_is); (case x2 => k_is); (case x3 => k_is); (case x4 => k_is))
      (case zd67 => refine' K24.DefAt.mk ?x1 ?x2 ?x3 ?x4; (case x1 => k_is); (case x2 => k_is); (case x3 => k_is); (case x4 => k_is))
      (case zd68 => refine' K24.DefAt.mk ?x1 ?x2 ?x3 ?x4; (case x1 => k_is); (case x2 => k_is); (case x3 => k_is); (case x4 => k_is))
      (case zd69 => refine' K24.DefAt.mk ?x1 ?x2 ?x3 ?x4; (case x1 => k_is); (case x2 => k_is); (case x3 => k_is); (case x4 => k_is))
      (case zd70 => refine' K24.DefAt.mk ?x1 ?x2 ?x3 ?x4; (case x1 => k_is); (case x2 => k_is); (case x3 => k_is); (case x4 => k_is))
      (case zd71 => refine' K24.DefAt.mk ?x1 ?x2 ?x3 ?x4; (case x1 => k_is); (case x2 => k_is); (case x3 => k_is); (case x4 => k_is))
      (case zd72 => refine' K24.DefAt.mk ?x1 ?x2 ?x3 ?x4; (case x1 => k_is); (case x2 => k_is); (case x3 => k_is); (case x4 => k_is))
      (case zd73 => refine' K24.DefAt.mk ?x1 ?x2 ?x3 ?x4; (case x1 => k_is); (case x2 => k_is); (case x3 => k_is); (case x4 => k_is))
      (case zd74 => refine' K24.DefAt.mk ?x1 ?x2 ?x3 ?x4; (case x1 => k_is); (case x2 => k_is); (case x3 => k_is); (case x4 => k_is))
      (case zh0 => refine' K24.StrAt.mk ?x1; (case x1 => k_is))
      (case zh1 => refine' K24.StrAt.mk ?x1; (case x1 => k_is))
      (case zh2 => refine' K24.IntAt.mk ?x1; (case x1 => k_is))
      (case zh3 => refine' K24.IntAt.mk ?x1; (case x1 => k_is))
      (case zh4 => refine' K24.IntAt.mk ?x1; (case x1 => k_is))
      (case zh5 => refine' K24.IntAt.mk ?x1; (case x1 => k_is))
      (case zh6 => refine' K24.IntAt.mk ?x1; (case x1 => k_is))
      (case zh7 => refine' K24.IntAt.mk ?x1; (case x1 => k_is))
      (case zk0 => refine' ⟨?x1, ?x2⟩; (case x1 => k_is); (case x2 => intro kv hkv; simp only [List.mem_cons, List.not_mem_nil, or_false] at hkv; rcases hkv with rfl | rfl | rfl | rfl <;> (refine' Qt.KDctI.mk ?y1 ?y2 ?y3 ?y4; (case y1 => k_is); (case y2 => exact (Qt.KeysInt.cons rfl rfl (Qt.KeysInt.cons rfl rfl (Qt.KeysInt.cons rfl rfl (Qt.KeysInt.cons rfl rfl Qt.KeysInt.nil))))); (case y3 => rfl); (case y4 => exact ⟨_, rfl⟩))))
      (case zk1 => refine' ⟨?x1, ?x2⟩; (case x1 => k_is); (case x2 => intro kv hkv; simp only [List.mem_cons, List.not_mem_nil, or_false] at hkv; rcases hkv with rfl | rfl | rfl | rfl <;> (refine' Qt.KDctI.mk ?y1 ?y2 ?y3 ?y4; (case y1 => k_is); (case y2 => exact (Qt.KeysInt.cons rfl rfl (Qt.KeysInt.cons rfl rfl (Qt.KeysInt.cons rfl rfl (Qt.KeysInt.cons rfl rfl Qt.KeysInt.nil))))); (case y3 => rfl); (case y4 => exact ⟨_, rfl⟩))))
      (case zo0 => refine' ⟨?x1, ?x2, ?x3, ?x4, ?x5, ?x6, ?x7, ?x8, ?x9, ?y1⟩; (case x1 => k_is); (case x2 => k_is); (case x3 => k_is); (case x4 => k_is); (case x5 => k_is); (case x6 => k_is); (case x7 => k_is); (case x8 => k_is); (case x9 => k_is); (case y1 => intro x hx; simp only [List.mem_cons, List.not_mem_nil, or_false] at hx; rcases hx with rfl | rfl | rfl <;> k_is))
      (case zi0 => refine' Qt.FnAt.mk ?x1 ?x2 ?x3; (case x1 => k_is); (case x2 => k_is); (case x3 => k_is))
      (case zm0_0 => refine' Qt.MethAt.mk ?x1 ?x2 ?x3 ?x4 ?x5; (case x1 => k_is); (case x2 => k_is); (case x3 => k_is); (case x4 => k_is); (case x5 => k_is))
      (case zm0_1 => refine' Qt.MethAt.mk ?x1 ?x2 ?x3 ?x4 ?x5; (case x1 => k_is); (case x2 => k_is); (case x3 => k_is); (case x4 => k_is); (case x5 => k_is))
      (case zo1 => refine' ⟨?x1, ?x2, ?x3, ?x4, ?x5, ?x6, ?x7, ?x8, ?x9, ?y1⟩; (case x1 => k_is); (case x2 => k_is); (case x3 => k_is); (case x4 => k_is); (case x5 => k_is); (case x6 => k_is); (case x7 => k_is); (case x8 => k_is); (case x9 => k_is); (case y1 => intro x hx; simp only [List.mem_cons, List.not_mem_nil, or_false] at hx; rcases hx with rfl | rfl | rfl | rfl <;> k_is))
      (case zi1 => refine' Qt.FnAt.mk ?x1 ?x2 ?x3; (case x1 => k_is); (case x2 => k_is); (case x3 => k_is))
      (case zm1_0 => refine' Qt.MethAt.mk ?x1 ?x2 ?x3 ?x4 ?x5; (case x1 => k_is); (case x2 => k_is); (case x3 => k_is); (case x4 => k_is); (case x5 => k_is))
      (case zm1_1 => refine' Qt.MethAt.mk ?x1 ?x2 ?x3 ?x4 ?x5; (case x1 => k_is); (case x2 => k_is); (case x3 => k_is); (case x4 => k_is); (case x5 => k_is))
      (case zm1_2 => refine' Qt.MethAt.mk ?x1 ?x2 ?x3 ?x4 ?x5; (case x1 => k_is); (case x2 => k_is); (case x3 => k_is); (case x4 => k_is); (case x5 => k_is))
      (case zm1_3 => refine' Qt.MethAt.mk ?x1 ?x2 ?x3 ?x4 ?x5; (case x1 => k_is); (case x2 => k_is); (case x3 => k_is); (case x4 => k_is); (case x5 => k_is))
      (case zm1_4 => refine' Qt.MethAt.mk ?x1 ?x2 ?x3 ?x4 ?x5; (case x1 => k_is); (case x2 => k_is); (case x3 => k_is); (case x4 => k_is); (case x5 => k_is))
      (case zx0 => refine' ⟨?x1, ?x2, ?x3, ?x4, ?x5⟩; (case x1 => k_is); (case x2 => kernel_rfl); (case x3 => k_is); (case x4 => k_is); (case x5 => k_is))
      (case zx1 => refine' ⟨?x1, ?x2, ?x3, ?x4, ?x5⟩; (case x1 => k_is); (case x2 => kernel_rfl); (case x3 => k_is); (case x4 => k_is); (case x5 => k_is))
      (case zbb =>
        intro x hx
        simp only [List.mem_cons, List.not_mem_nil, or_false] at hx
        rcases hx with rfl | rfl | rfl | rfl | rfl | rfl | rfl | rfl | rfl | rfl | rfl | rfl | rfl | rfl | rfl | rfl | rfl | rfl <;> k_is)
