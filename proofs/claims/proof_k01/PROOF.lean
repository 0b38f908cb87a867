import PyProof.Rows.All
import Wide.All
import OpenK.AllK
import Wide.FinOn
import HandS.ForMost
import HandS.ForExc
import HandS.ExcInit
import HandS.TryMany
import HandS.IsInst
import HandS.Strs
import HandS.Evl
import HandS.Wide
import HandS.Conv
import HandS.SetFor
import HandS.SetKeys
import HandS.ExcField
import HandS.Walk
import KE.GoesMore
import HandS.TupMul
import HandS.SortKw
import KE.GoesEnum
import HandS.NoneIn
import PyProof.ListStr
import HandS.Sort
import HandS.Flow
import HandS.WordsDict
import HandS.DictComp
import HandS.Defaults
import KE.SortData
import KE.DataMinMax
import HandS.Style
import HandS.Replace
import KE.KDictZip
import KE.KStar
import HandS.Star
import HandS.TupSets
import HandS.Property
import HandS.TupAny
import HandS.ExcOwn
import OpenK.KOps
import KE.KDictKeyed
import KE.KDictCopyH
import KE.KDictList
import PyProof.TupleOfSeq
import KE.KDictSum
import PySem.Challenge.RW_holedwindows_k01_masks_refused
set_option Elab.async false
set_option linter.all false
set_option maxRecDepth 100000
set_option maxHeartbeats 4000000
/-! Rules of our own: the base class's __init__ by an own class's name. -/
namespace Qt
open PySem PySem.Spec PyProof.Rows L2

section
variable {X : Cx} {e : Expr} {es : List Expr} {ta : TA} {x : Str} {p p1 p2 pos : Pos} {W : Addr}
/-- what the top says of an own class W over ValueError: W.__init__ is ValueError's -/
structure OwnBase (K : PySem.W.Frag) (W : Addr) : Prop where
  rd : PySem.W.readsIn K W (.type "type") = true
  ga : PySem.W.specialIn K (.ref W) "__getattribute__" = some (some (.builtin "type.__getattribute__"))
  it : PySem.W.findCls K (.ref W) (.type "type") "__init__" = some (.val (.builtin "ValueError.__init__"))
end
end Qt
/-! del xs[a:] of a list. -/
namespace Qt
open PySem PySem.Spec PyProof.Rows L2

section
variable {prog : Program} {w : World} {A : Around} {E : Value → Shared → Prop} {s : Shared}
end
section
variable {X : Cx} {o i : Expr} {to ti : TE} {p2 tpos pos : Pos}
def tDelTail (to : TE) (ti : TE) : TS := fun D σ H => to σ H fun x H1 => ti σ H1 fun y H2 => ∃ (l : Addr) (xs : List V) (a : Nat), x = .ref l ∧ y = .int (a : Int) ∧ H2 l = some (.lst xs) ∧ a ≤ xs.length ∧ D.nx σ (upd H2 l (.lst (xs.take a)))
end
end Qt
/-! set(xs) of a list: whatever the turns of its loop leave. -/
namespace Qt
open PySem PySem.Spec PyProof.Rows L2

/-- a set that was just made -/
abbrev sob (w : World) : Obj := { cls := .type "set", dict := none, data := .set #[] 0 (.fresh 0 0 (!w.params.followText "set-order")) }
section
variable {P : Program} {w : World} {A : Around} {E : Value → Shared → Prop} {s : Shared}
/-- the loop of set(xs) over these items leaves the set as Post says -/
def Fills (P : Program) (w : World) (items : Array Value) (Post : Addr → Heap → Prop) : Prop :=
  ∀ (A' : Around) (I : Addr) (fp wr : List Addr) (G : Array GenState → Array GenState → Prop) (St : Nat → Shared → Prop) (R : Result → Shared → Prop),
    WalksS P w A'.in1 I fp wr G items.size (fun i v => items[i]? = some v) St → ∀ (S : Addr), S ∉ fp → ∀ s0 : Shared, St 0 s0 → s0.heap.get? S = some (sob w) →
    (∀ s', Moved (S :: wr) G s0 s' → Post S s'.heap → R (.ok (.ret .none)) s') → codeAny (model P w) A' (.builtin "set.update.loop" ⟨[.ref S, .ref I], []⟩) R s0
/-- the same, told of what stood already, and of the stack's room -/
def FillsH (P : Program) (w : World) (A : Around) (h0 : Heap) (items : Array Value) (Post : Addr → Heap → Prop) : Prop :=
  ∀ (A' : Around) (I : Addr) (fp wr : List Addr) (G : Array GenState → Array GenState → Prop) (St : Nat → Shared → Prop) (R : Result → Shared → Prop),
    WalksS P w A'.in1 I fp wr G items.size (fun i v => items[i]? = some v) St → ∀ (S : Addr), S ∉ fp → ∀ s0 : Shared, St 0 s0 → s0.heap.get? S = some (sob w) →
    (∀ b o, h0.get? b = some o → s0.heap.get? b = some o) → h0.get? S = none → (∀ b ∈ wr, h0.get? b = none) → A'.in1.units ≤ A.units + 3 →
    (∀ s', Moved (S :: wr) G s0 s' → Post S s'.heap → R (.ok (.ret .none)) s') → codeAny (model P w) A' (.builtin "set.update.loop" ⟨[.ref S, .ref I], []⟩) R s0
end
section
variable {X : Cx}
/-- set(xs), xs a list of ints -/
def rSetI (K : PySem.W.Frag) (w : World) : List V → Hp → VK → Prop := fun xs H Q => ∃ (l : Addr) (ns : List Int), xs = [.ref l] ∧ SqL K H l (ns.map V.int) ∧ ns.length ≤ 1000 ∧
  ∀ p c, c ≤ ns.length → H p = none → Q (.ref p) (upd H p (SetO w p (fun j => decide (j ∈ ns)) c))
end
end Qt
/-! try with several clauses, with a name and without one. -/
namespace Qt
open PySem PySem.Spec PyProof.Rows L2

/-- the ends of a suite whose error has the name in slot i -/
def unnamed (i : Nat) (D : Ends) : Ends := { nx := fun σ' H' => D.nx (σ'.set i none) H', rt := D.rt, bk := fun σ' H' => D.bk (σ'.set i none) H', ct := fun σ' H' => D.ct (σ'.set i none) H' }
abbrev Suite := Addr → Value → Option Addr → TS
/-- what the clauses wish of an error, one behind the other -/
def wMix (K : PySem.W.Frag) (Wout : WX) (D : Ends) : List (Value × Option Nat × Suite) → WX
  | [] => Wout
  | (c, o, ts) :: r => fun cls d σ H => ∃ b, PySem.W.exmOne K cls c = some b ∧
      (b = true → ∀ a, H a = none → match o with
        | none => ts a cls d D σ H
        | some i => ts a cls d (unnamed i D) (σ.set i (some (.ref a))) H) ∧ (b = false → wMix K Wout D r cls d σ H)
inductive Hds (X : Cx) : List ExceptHandler → List (Value × Option Nat × Suite) → Prop
  | nil : Hds X [] []
  | plain {x : Str} {c : Value} {ts : Suite} {b₀ : Stmt} {suite : List Stmt} {np pos' : Pos} {hds : List ExceptHandler} {l : List (Value × Option Nat × Suite)} (hc : Names X x c)
      (hsu : ∀ (a : Addr) (oe : Obj) (cls : Value) (d : Option Addr) (pn : List (Addr × Obj)), Zc cls d oe → (∃ vs, oe.data = .fields vs) → PSs (X.suite a ((a, oe) :: pn)) (b₀ :: suite) (ts a cls d)) (r : Hds X hds l) :
      Hds X (.ExceptHandler (some (.Name x np)) none (b₀ :: suite) pos' :: hds) ((c, none, ts) :: l)
  | named {x n : Str} {i : Nat} {c : Value} {ts : Suite} {b₀ : Stmt} {suite : List Stmt} {np pos' : Pos} {hds : List ExceptHandler} {l : List (Value × Option Nat × Suite)} (hc : Names X x c) (hi : X.N[i]? = some n) (hln : X.env.kindOf n = some .local)
      (hsu : ∀ (a : Addr) (oe : Obj) (cls : Value) (d : Option Addr) (pn : List (Addr × Obj)), Zc cls d oe → (∃ vs, oe.data = .fields vs) → PSs (X.suite a ((a, oe) :: pn)) (b₀ :: suite) (ts a cls d)) (r : Hds X hds l) :
      Hds X (.ExceptHandler (some (.Name x np)) (some n) (b₀ :: suite) pos' :: hds) ((c, some i, ts) :: l)
section
variable {X : Cx} {body : List Stmt} {h₀ : ExceptHandler} {hds : List ExceptHandler} {l : List (Value × Option Nat × Suite)} {pos : Pos} {tb : WX → TS} {Wout : WX}
theorem ps_try_mix (hs : X.stack = X.env :: X.outer) (hf : X.env.frame = some X.env.locals) (hN : X.N.Nodup) (tk : Takes X Wout)
    (hb : ∀ (W : WX) (pn : List (Addr × Obj)) (xe : Value → Shared → Prop), Takes (X.tr pn xe) W → PassesOwn (model X.prog X.w) X.A X.env xe → PSs (X.tr pn xe) body (tb W))
    (hh : Hds X (h₀ :: hds) l) : PS X (.Try body (h₀ :: hds) [] [] pos) (fun D σ H => tb (wMix X.K Wout D l) D σ H) := by
  refine ⟨fun pins s σ H D I h => ?_⟩
  have ok := I.ok
  have hfr : X.A.frames = some (X.env :: X.outer) := by rw [ok.frames, hs]
  refine wpAny_Try_except ?_
  have catch_ : ∀ (u : Value) (s' : Shared), XE (X.tr (X.pn ++ pins) (fun e s₁ => wpAny (model X.prog X.w) X.A (noteFrame e X.env) (fun _ s₂ => wpAny (model X.prog X.w) X.A (setFlight e none) (fun _ s₃ =>
      wpAny (model X.prog X.w) X.A (handleBy e X.env (h₀ :: hds)) (SP X pins D) X.xe s₃) X.xe s₂) X.xe s₁)) (wMix X.K Wout D l) u s' →
      wpAny (model X.prog X.w) X.A (noteFrame u X.env) (fun _ s₂ => wpAny (model X.prog X.w) X.A (setFlight u none) (fun _ s₃ => wpAny (model X.prog X.w) X.A (handleBy u X.env (h₀ :: hds)) (SP X pins D) X.xe s₃) X.xe s₂) X.xe s' := by
    intro u s' xx
    obtain ⟨a, B, sI, pins', σ', H', cls, d, rfl, J', nb, up, sky, na, os, ag, w⟩ := xx
    have J : Inv X pins σ' H' sI := J'.ofTry ok
    have sky' : Sky B (X.env :: X.outer) a (Zc cls d) X.env.locals s'.heap := by
      rw [← hs]
      exact sky
    refine Sky.land Zc.steady hfr hf sky' fun h3 fl3 up3 => ?_
    have J3 : Inv X pins σ' H' { s' with heap := h3 } := J.landed nb fl3.1 (up.trans up3) os ag
    obtain ⟨oe3, vs3, he3, hz3, hd3⟩ := fl3.there
    have nfr : a ∉ frs (X.env :: X.outer) := fun hm => by
      obtain ⟨_, o', e', hnf⟩ := fl3.2.2.1.mem hm
      rw [he3] at e'
      cases e'
      exact hnf _ hd3
    have nL : a ≠ X.env.locals := fun z => nfr (List.mem_filterMap.mpr ⟨X.env, List.mem_cons_self, by rw [hf, z]⟩)
    have nF : a ∉ X.fs := fun hm => by
      obtain ⟨e, he, q⟩ := List.mem_filterMap.mp hm
      exact nfr (List.mem_filterMap.mpr ⟨e, List.mem_cons_of_mem _ he, q⟩)
    have S3 := J3.suite he3 hd3 na nL nF
    have LT : PySem.W.Looks (model X.prog X.w) h3 (typeOf (.ref a)) cls := fun A Q E s k q => wpAny_typeOf_ref (k _ _ he3) (by rw [hz3.1]; exact q)
    have test : ∀ {x : Str} {c : Value} {np : Pos} {Q : Value → Shared → Prop} {E : Value → Shared → Prop}, Names X x c → Q c { s' with heap := h3 } →
        wpAny (model X.prog X.w) (X.A.mark (some (.ref a))) (eval (.Name x np) X.env) Q E { s' with heap := h3 } := fun {x c np Q E} hc q => by
      obtain ⟨hg, hdbg, hm | ⟨hm, hv, hnn⟩⟩ := hc
      · exact ld_glob (X := X.suite a ((a, oe3) :: (X.pn ++ pins))) S3 hg hm q hdbg
      · exact ld_blt (X := X.suite a ((a, oe3) :: (X.pn ++ pins))) S3 hg hm hv q hnn hdbg
    have go : ∀ {hds' : List ExceptHandler} {l' : List (Value × Option Nat × Suite)}, Hds X hds' l' → wMix X.K Wout D l' cls d σ' H' →
        wpAny (model X.prog X.w) X.A (handleBy (.ref a) X.env hds') (SP X pins D) X.xe { s' with heap := h3 } := by
      intro hds' l' hk
      induction hk with
      | nil =>
        intro w
        refine wpAny_handleBy_nil ?_
        obtain ⟨k1, k2, k3, oe, vs, T, oT, ts', he, hz, hd, h1, hr⟩ := id fl3
        unfold PySem.passOn
        refine wpAny_bind (wpAny_field he hd h1 ?_)
        rw [if_neg (show ¬ ((Value.ref T == Value.none) = true) from by simp)]
        have fin : wpAny (model X.prog X.w) X.A (setFlight (.ref a) X.env.frame) (fun _ s4 => wpAny (model X.prog X.w) X.A (throw (.ref a) : Sem Flow) (SP X pins D) X.xe s4) X.xe { s' with heap := h3 } := by
          rw [hf]
          refine HandSPX.setFlight_upZ fl3 fun h4 hh4 up4 => wpAny_throw (tk _ _ ?_)
          exact ⟨a, B, sI, pins, σ', H', cls, d, rfl, J, nb, (up.trans up3).trans up4, .inr (.inr (by rw [hs]; exact hh4)), na, os, ag, w⟩
        first
          | exact wpAny_bind (wpAny_pure (wpAny_bind fin))
          | exact wpAny_bind fin
      | @plain x c ts b₀ suite np pos' hds2 l2 hc hsu r ih =>
        intro w
        obtain ⟨b, hb1, hyes, hno⟩ := w
        have LM := PySem.W.exm_one (M := model X.prog X.w) (J3.kIn) LT hb1
        refine wpAny_handleBy_cons (codeAny_handlers_test ?_) (by intro q; cases q)
        refine test hc (LM.here ?_)
        cases b with
        | true =>
          refine codeAny_handlers_suite ?_
          refine HandSPX.lands_againZ fl3 fun h4 fl4 up4 => ?_
          have J4 : Inv X pins σ' H' { s' with heap := h4 } := J.landed nb fl4.1 ((up.trans up3).trans up4) os ag
          obtain ⟨oe4, vs4, he4, hz4, hd4⟩ := fl4.there
          have S4 := J4.suite he4 hd4 na nL nF
          refine wpAny_mono ((hsu a oe4 cls d (X.pn ++ pins) hz4 ⟨_, hd4⟩).run [] _ _ H' _ S4 (hyes rfl a na)) (fun f s6 hsp => ?_) (fun _ _ z => False.elim z)
          cases f
          case ret u =>
            obtain ⟨v6, σ6, H6, S6, r6, q6⟩ := hsp
            exact ⟨_, _, _, S6.unsuite ok, r6, q6⟩
          all_goals
            obtain ⟨σ6, H6, S6, q6⟩ := hsp
            exact ⟨_, _, S6.unsuite ok, q6⟩
        | false =>
          show wpAny _ X.A (handleBy (.ref a) X.env hds2) _ _ _
          exact ih (hno rfl)
      | @named x n i c ts b₀ suite np pos' hds2 l2 hc hi hln hsu r ih =>
        intro w
        obtain ⟨b, hb1, hyes, hno⟩ := w
        have LM := PySem.W.exm_one (M := model X.prog X.w) (J3.kIn) LT hb1
        refine wpAny_handleBy_cons (codeAny_handlers_test ?_) (by intro q; cases q)
        refine test hc (LM.here ?_)
        cases b with
        | true =>
          refine codeAny_handlers_suite_as ?_
          refine HandSPX.lands_againZ fl3 fun h4 fl4 up4 => ?_
          have J4 : Inv X pins σ' H' { s' with heap := h4 } := J.landed nb fl4.1 ((up.trans up3).trans up4) os ag
          obtain ⟨oe4, vs4, he4, hz4, hd4⟩ := fl4.there
          have S4 := J4.suite he4 hd4 na nL nF
          refine store_ok (X := X.suite a ((a, oe4) :: (X.pn ++ pins))) (v := .ref a) S4 hN hi (.inl hln) rfl (fun s5 S5 => ?_) (.inr hln)
          refine wpAny_mono ((hsu a oe4 cls d (X.pn ++ pins) hz4 ⟨_, hd4⟩).run [] s5 _ H' _ S5 (hyes rfl a na)) (fun f s6 hsp => ?_) (fun _ _ z => False.elim z)
          have end_ : ∀ {σ6 : L2.St} {H6 : Hp} {Q : Shared → Prop}, Inv (X.suite a ((a, oe4) :: (X.pn ++ pins))) [] σ6 H6 s6 → (∀ s7, Inv X pins (σ6.set i none) H6 s7 → Q s7) →
              wpAny (model X.prog X.w) X.A (do bindName X.env n .none; unbindBehindTheSuite X.env n pos') (fun _ s7 => Q s7) X.xe s6 := fun {σ6 H6 Q} S6 hq => gone_ok (S6.unsuite ok) hN hi hln hq
          cases f
          case ret u =>
            obtain ⟨v6, σ6, H6, S6, r6, q6⟩ := hsp
            exact end_ S6 fun s7 J7 => ⟨_, _, _, J7, r6, q6⟩
          all_goals
            obtain ⟨σ6, H6, S6, q6⟩ := hsp
            exact end_ S6 fun s7 J7 => ⟨_, _, J7, q6⟩
        | false =>
          show wpAny _ X.A (handleBy (.ref a) X.env hds2) _ _ _
          exact ih (hno rfl)
    exact go hh w
  refine wpAny_mono ((hb (wMix X.K Wout D l) (X.pn ++ pins) _ (fun u s' xx => catch_ u s' xx) PassesOwn.looking).run [] s σ H D (I.toTry _) h) (fun f s1 hsp => ?_) (fun e s1 he => he)
  cases f with
  | next =>
    obtain ⟨σ', H', J', q⟩ := hsp
    exact wpAny_execs_nil ⟨σ', H', J'.ofTry ok, q⟩
  | brk =>
    obtain ⟨σ', H', J', q⟩ := hsp
    exact ⟨σ', H', J'.ofTry ok, q⟩
  | cont =>
    obtain ⟨σ', H', J', q⟩ := hsp
    exact ⟨σ', H', J'.ofTry ok, q⟩
  | ret u =>
    obtain ⟨v, σ', H', J', r, q⟩ := hsp
    exact ⟨v, σ', H', J'.ofTry ok, r, q⟩
end
end Qt
/-! text * number. -/
namespace Qt
open PySem PySem.Spec PyProof.Rows L2

def repS (z : Str) (k : Nat) : Str := ⟨((List.replicate k z.cps.toList).flatten).toArray⟩
theorem foldl_app (l : List (Array Nat)) : ∀ a : Array Nat, (l.foldl (· ++ ·) a).toList = a.toList ++ (l.map Array.toList).flatten := by
  induction l with
  | nil => intro a; simp
  | cons x l ih => intro a; rw [List.foldl_cons, ih]; simp
theorem repS_fold (z : Str) (k : Nat) : (⟨(List.replicate k z.cps).foldl (· ++ ·) #[]⟩ : Str) = repS z k := by
  unfold repS
  congr 1
  apply Array.toList_inj.mp
  rw [foldl_app]
  simp
theorem repS_one (z : Str) : repS z 1 = z := by
  unfold repS
  simp
theorem repS_nil (z : Str) (k : Nat) (h : z.cps.toList = []) : repS z k = z := by
  unfold repS
  rw [h]
  obtain ⟨c⟩ := z
  have e : c = #[] := by simpa using h
  subst e
  simp
section
variable {X : Cx}
theorem op_mulS : OpR X (binaryOp .Mult) (fun x y H Q => ∃ (z : Str) (k : Nat), x = .str z ∧ y = .int (k : Int) ∧ k ≤ 1000 ∧ z.length ≤ 1000 ∧ Q (.str (repS z k)) H) := by
  intro pins s σ H x y v u Q I rx ry h
  obtain ⟨z, k, rfl, rfl, hk, hz, q⟩ := h
  obtain ⟨t, rfl⟩ := rx
  obtain ⟨t', rfl⟩ := ry
  have hcap : z.length * k ≤ 1000000 := Nat.le_trans (Nat.mul_le_mul hz hk) (by decide)
  refine PySem.P.mul_str (x := z) (n := (k : Int)) (by
      have h1 : ¬ (k : Int) < -(2 ^ 63 : Int) := by omega
      have h2 : ¬ (k : Int) ≥ 2 ^ 63 := by omega
      rw [decide_eq_false h1, decide_eq_false h2]; rfl) (fun h1 _ hh => ?_) (fun h1 _ => ?_) ?_
  · have h3 : (2 ^ 63 - 1 : Int) / (k : Int) ≥ 1000 := by
      refine (Int.le_ediv_iff_mul_le (by omega)).mpr ?_
      omega
    omega
  · rw [Int.toNat_natCast]
    exact notLongL (by rw [sizeLine_eq]; omega)
  · by_cases h1 : (k : Int) < 1
    · rw [if_pos h1]
      have e : k = 0 := by omega
      subst e
      exact ⟨by decide, .str Str.empty, H, I.tok _, ⟨_, rfl⟩, q⟩
    · rw [if_neg h1]
      by_cases h2 : ((k : Int) == 1 || z.length == 0) = true
      · rw [if_pos h2]
        have e : repS z k = z := by
          rcases Bool.or_eq_true_iff.mp h2 with h3 | h3
          · have : k = 1 := by have := of_decide_eq_true h3; omega
            rw [this, repS_one]
          · refine repS_nil z k ?_
            have h4 : z.cps.size = 0 := beq_iff_eq.mp h3
            exact List.eq_nil_of_length_eq_zero (by rw [Array.length_toList]; exact h4)
        rw [e] at q
        exact ⟨.str z, H, I, ⟨_, rfl⟩, q⟩
      · rw [if_neg h2, Int.toNat_natCast, repS_fold]
        refine ⟨?_, .str (repS z k), H, I.tok _, ⟨_, rfl⟩, q⟩
        have : (repS z k).length = k * z.length := by
          show ((List.replicate k z.cps.toList).flatten).toArray.size = k * z.length
          rw [List.size_toArray, List.length_flatten]
          simp
          rfl
        rw [this, sizeLine_eq, Nat.mul_comm]
        omega
end
end Qt
/-! enumerate of a text; a promise without errors out of one with errors. -/
namespace Qt
open PySem PySem.Spec PyProof.Rows L2

/-- the signs of a text with their numbers, in new pairs -/
def Itse (x : Str) : It := ⟨fun i _ => i < x.cps.size, fun i H v H' => ∃ (T : Addr) (c : Nat), v = .ref T ∧ H T = none ∧ H' = upd H T (.tup [.int (i : Nat), .str ⟨#[c]⟩]) ∧ x.cps[i]? = some c, fun i _ => i = x.cps.size⟩
/-- where enumerate over a text stands -/
def AtEnumS (x : Str) (t : Tok) (ty : String) (e it : Addr) (i : Nat) (h : Heap) : Prop := (∃ old, IsEnum h e it ((i : Nat) : Int) old) ∧ h.IsStrIter it ty x t i
theorem draws_str {P : Program} {w : World} {A : Around} {ty : String} (hh : A.handled = none) (hty : ty = "str_ascii_iterator" ∨ ty = "str_iterator") (it : Addr) (x : Str) (t : Tok) :
    Draws P w A it [it] x.cps.size (fun i v => ∃ c u, x.cps[i]? = some c ∧ v = .str ⟨#[c]⟩ u) (fun i h => h.IsStrIter it ty x t i) := by
  rcases hty with e | e
  · rw [e]; exact Draws.strAscii hh it x t
  · rw [e]; exact Draws.strWide hh it x t
theorem turn_enumS {P : Program} {w : World} {K : PySem.W.Frag} {elts : List Expr} {kk : Nat} {tpos : Pos} {x : Str} {t : Tok} {ty : String} (hty : ty = "str_ascii_iterator" ∨ ty = "str_iterator") {e it : Addr} (hne : e ≠ it) :
    Turn P w K (.Tuple elts kk tpos) (Itse x) [e, it] e (fun i h => AtEnumS x t ty e it i h) where
  mem := by simp
  obj := fun i h st b hb => by
    obtain ⟨⟨old, he⟩, o, ho, hc, hd⟩ := st
    have e' : b = e ∨ b = it := by simpa using hb
    rcases e' with z | z
    · rw [z]; exact ⟨_, he, fun v q => nomatch q⟩
    · rw [z]; exact ⟨o, ho, fun v q => by rw [hd] at q; cases q⟩
  keep := fun i h h' st k => by
    obtain ⟨⟨old, he⟩, o, ho, r⟩ := st
    exact ⟨⟨old, k e (by simp) _ he⟩, o, k it (by simp) o ho, r⟩
  item := by
    intro X hP hw hK hc i pins s σ H E I hf st hg
    subst hP hw hK
    obtain ⟨⟨old, he⟩, hit⟩ := st
    have hel : e < s.heap.objs.size := Heap.lt_size he
    have hil : it < s.heap.objs.size := by obtain ⟨_, q, _⟩ := hit; exact Heap.lt_size q
    have W := WalksT.enumerateD (draws_str (P := X.prog) (w := X.w) (A := X.A.in1) (I.ok.hd hc) hty it x t) e hne (by simpa using hne) (by simp)
    refine W.item i s _ _ hg ⟨⟨old, he⟩, hit⟩ fun T vals h' tk hp hT ht hm hk => ?_
    obtain ⟨tt, v, ⟨c, u, hcx, rfl⟩, rfl⟩ := hp
    refine ⟨.ref T, rfl, W.go elts kk tpos i T { s with heap := h', toks := tk } _ _ hm fun h'' hst hk2 => ?_⟩
    obtain ⟨oT, hT1, hT2, nT, hT3⟩ := ht
    have nT' : T ∉ [e, it] := W.apart i T _ hm
    have hT4 : h''.get? T = some oT := hk2 T oT nT' hT1
    have new : ObjOk X.prog X.w (upd H T (.tup [.int (i : Nat), .str ⟨#[c]⟩])) h'' T (.tup [.int (i : Nat), .str ⟨#[c]⟩]) :=
      ⟨by show 2 ≤ sizeLine; decide, [.int i tt, .str ⟨#[c]⟩ u], .cons ⟨_, rfl⟩ (.cons ⟨_, rfl⟩ .nil), ⟨_, hT4, hT2, _, hT3⟩⟩
    have I1 : Inv X pins σ (upd H T (.tup [.int (i : Nat), .str ⟨#[c]⟩])) { s with heap := h'', toks := tk } :=
      I.turnedNew (ch := [e, it]) (fun b ob hb q => hk2 b ob hb (hk b ob hb q)) hf hT new
    refine ⟨.ref T, _, I1, rfl, ⟨T, c, rfl, I.hok.fresh hT, rfl, hcx⟩, hst, fun b hb => ?_⟩
    have hb' : b < s.heap.objs.size := by
      have e' : b = e ∨ b = it := by simpa using hb
      rcases e' with z | z
      · rw [z]; exact hel
      · rw [z]; exact hil
    rw [upd_ne (Nat.ne_of_lt (Nat.lt_of_lt_of_le hb' hT))]
    exact (hf b hb).1
  done := by
    intro X hP hw hK hc i pins s σ H E I hf st hg
    subst hP hw hK
    obtain ⟨⟨old, he⟩, hit⟩ := st
    obtain ⟨f0, f1, f2, f3, f4, f5⟩ := hf it (by simp)
    have D := draws_str (P := X.prog) (w := X.w) (A := X.A.in1) (I.ok.hd hc) hty it x t
    have hi : i = x.cps.size := hg
    rw [hi] at he hit
    exact wpAny_pyNext_enum_endD D he hit fun h' eb => ⟨rfl, I.turned (t' := s.toks) (fun b o hb q => eb b o hb q) f0 f1 f3 f4 f5⟩
  self := fun A i s Q E st h => let ⟨⟨_, he⟩, _⟩ := st; wpAny_pyIter_enum he h
def iEnumS (ta : TA) : TI := fun σ H R => ta σ H fun vs H1 => ∃ x, vs = [.str x] ∧ R (Itse x) H1
theorem pi_enumS {X : Cx} {e : Expr} {ta : TA} {p pos tpos : Pos} {elts : List Expr} {kk : Nat} (hg : Gl X "enumerate") (hm : X.mg "enumerate" = none) (ha : PA X [e] ta) (hs : starEach [e] X.env = [(false, eval e X.env)] := by rfl) :
    PI X (.Tuple elts kk tpos) (.Call (.Name "enumerate" p) [e] [] pos) (iEnumS ta) := by
  refine ⟨fun pins s σ H R I h => ?_⟩
  refine Call_ (ld_blt I hg hm boot_enumerate (PyProof.Rows.callWith_type1 (thn (ha.run pos pins s σ H _ I h) fun us s1 hh => ?_) hs rfl))
  obtain ⟨vs, H1, I1, r1, x, ex, q⟩ := hh
  subst ex
  cases r1 with
  | cons r rr =>
    cases rr
    obtain ⟨t, rfl⟩ := r
    refine call_enumerate_str fun h' he hit hsz hk => wpAny_pyIter_enum he ?_
    have I2 : Inv X pins σ H1 { s1 with heap := h' } := I1.kept (t' := s1.toks) hk
    have hty : strIterType x = "str_ascii_iterator" ∨ strIterType x = "str_iterator" := by
      unfold strIterType
      split
      · exact .inl rfl
      · exact .inr rfl
    refine ⟨s1.heap.objs.size + 1, [s1.heap.objs.size + 1, s1.heap.objs.size], _, _, H1, rfl, I2, turn_enumS (x := x) (t := t) hty (e := s1.heap.objs.size + 1) (it := s1.heap.objs.size) (Nat.succ_ne_self _), ⟨⟨.none, he⟩, hit⟩, fun b hb => ?_, q⟩
    have e' : b = s1.heap.objs.size + 1 ∨ b = s1.heap.objs.size := by simpa using hb
    have hle : s1.heap.objs.size ≤ b := by
      rcases e' with z | z
      · rw [z]; exact Nat.le_add_right _ _
      · rw [z]; exact Nat.le_refl _
    exact I1.fpOk hle (I1.hok.fresh hle)
/-- a promise that lets no error out -/
theorem calm {P : Program} {w : World} {K : PySem.W.Frag} {mg : Str → Option Value} {base : Heap} {k : Nat} {f : Addr} {fd : FuncData} {ps : List Str} {sp sp0 : Sp} (F : FnOk P w K mg base (L2.CX P w) k f fd ps sp)
    (h : ∀ vs H Q E, sp0 vs H Q E → sp vs H Q (fun _ _ _ => False)) : FnOk P w K mg base CX0 k f fd ps sp0 := by
  refine ⟨fun vs H Q E q => F.len vs H Q _ (h vs H Q E q), fun A outer s H args us vs Q E hr he hb hv hs => ?_⟩
  refine codeAny_mono (F.run A outer s H args us vs Q (fun _ _ _ => False) hr he hb hv (h _ _ _ _ hs)) fun r s' q => ?_
  cases r with
  | error er =>
    obtain ⟨a, B, H', cls, d, _, _, _, _, _, _, _, z⟩ := q
    exact z.elim
  | ok fl => cases fl <;> exact q
end Qt
/-! Defs and classes as they stand behind the top; the law's row of draws; data. -/
namespace Qt
open PySem PySem.Spec PyProof.Rows L2 Evl

section
variable (P : Program) (w : World) (K : PySem.W.Frag) (mg : Str → Option Value) (base : Heap)
/-- the def x stands there -/
def Ent (x : Str) (st : Stmt) (ps : List Str) : Prop := ∃ (f : Addr) (fd : FuncData), Fun K x x st f fd ∧ mg x = some (.ref f) ∧ Binds K fd ps []
/-- the def x is there and keeps sp -/
def Cal (CX : CXT) (k : Nat) (x : Str) (ps : List Str) (sp : Sp) : Prop := ∃ (f : Addr) (fd : FuncData), FnOk P w K mg base CX k f fd ps sp ∧ mg x = some (.ref f) ∧ PySem.W.keepIn K (.ref f) = true ∧ Binds K fd ps []
/-- an own error class without an __init__ of its own -/
structure ExcC (x : Str) (C : Addr) : Prop where
  g : mg x = some (.ref C)
  x : PySem.W.excIn K C [.type "ValueError", .type "Exception", .type "BaseException", .type "object"] "ValueError.__new__" = true
  k : PySem.W.keepIn K (.ref C) = true
  b : PySem.W.subIn K (.ref C) (.type "BaseException") = some true
  t : PySem.W.typeIn K (.ref C) = some (.type "type")
/-- an own error class with an __init__ (at fI) that stores the field n -/
structure ExcI (x : Str) (n : Str) (C fI : Addr) : Prop where
  g : mg x = some (.ref C)
  o : OexC K C
  i : PySem.W.findIn K (.ref C) "__init__" = some (some (.ref fI))
  t : PySem.W.typeIn K (.ref fI) = some (.type "function")
  xf : XfC K C
  no : PySem.W.findIn K (.ref C) n = some none
end
/-- the same promise for the calls that let no error out -/
theorem Cal.calm {P : Program} {w : World} {K : PySem.W.Frag} {mg : Str → Option Value} {base : Heap} {k : Nat} {x : Str} {ps : List Str} {sp sp0 : Sp} (c : Cal P w K mg base (L2.CX P w) k x ps sp)
    (h : ∀ vs H Q E, sp0 vs H Q E → sp vs H Q (fun _ _ _ => False)) : Cal P w K mg base CX0 k x ps sp0 := by
  obtain ⟨f, fd, F, m, kp, b⟩ := c
  exact ⟨f, fd, Qt.calm F h, m, kp, b⟩
/-! ### the law's row of draws -/
def Row (K : PySem.W.Frag) (r sc : Addr) (ns : List Int) (H : Hp) : Prop := ∃ (i s x : Int),
  H r = some (.lst [.ref sc, .int i, .int s, .int x]) ∧ SqL K H sc (ns.map V.int) ∧ ns.length ≤ 1000 ∧ 0 ≤ i ∧ 0 ≤ s ∧ s < 2147483647
/-- what happens where only the row is changed and new objects come -/
def Xr (K : PySem.W.Frag) (r : Addr) (H H' : Hp) : Prop := ∀ a o, a ≠ r → H a = some o → H' a = some o
section
variable {K : PySem.W.Frag} {r : Addr} {H H1 H2 : Hp}
theorem Xr.refl : Xr K r H H := fun _ _ _ h => h
theorem Xr.trans (a : Xr K r H H1) (b : Xr K r H1 H2) : Xr K r H H2 := fun c o n h => b c o n (a c o n h)
theorem Xr.of (e : Ex H H1) : Xr K r H H1 := fun a o _ h => e a o h
theorem Row.ex {sc : Addr} {ns : List Int} (h : Row K r sc ns H) (e : Ex H H1) : Row K r sc ns H1 := by
  obtain ⟨i, s, x, h1, h3, h4⟩ := h
  exact ⟨i, s, x, e _ _ h1, ex_l e h3, h4⟩
/-- the script stays where it is -/
theorem Row.sq {sc : Addr} {ns : List Int} (h : Row K r sc ns H) (X : Xr K r H H1) : SqL K H1 sc (ns.map V.int) := by
  obtain ⟨i, s, x, h1, h3, h4⟩ := h
  rcases h3 with (h3 | ⟨o, h3⟩) | h3
  · have ne : sc ≠ r := fun z => by
      rw [z, h1] at h3
      cases ns with
      | nil => cases h3
      | cons n l => injection h3 with h3; injection h3 with h3; cases h3
    exact .inl (.inl (X _ _ ne h3))
  · have ne : sc ≠ r := fun z => by rw [z, h1] at h3; cases h3
    exact .inl (.inr ⟨o, X _ _ ne h3⟩)
  · exact .inr h3
theorem Row.ne {sc : Addr} {ns : List Int} (h : Row K r sc ns H) {p : Addr} (n : H p = none) : p ≠ r := fun z => by
  obtain ⟨i, s, x, h1, _⟩ := h
  rw [z, h1] at n
  cases n
end
/-- _law_taken(row, many) -/
def spTaken (K : PySem.W.Frag) : Sp := fun vs H Q _ => ∃ (r sc : Addr) (ns : List Int) (m : Int), vs = [.ref r, .int m] ∧ 1 ≤ m ∧ m ≤ 1000000 ∧ Row K r sc ns H ∧
  ∀ (n : Int) (H' : Hp), 0 ≤ n → n < m → Xr K r H H' → Row K r sc ns H' → Q (.int n) H'

/-! ### values -/
/-- a value whose class is a built-in one -/
def Kind (K : PySem.W.Frag) (H : Hp) (v : V) (t : String) : Prop := TyX K H v (.type t)
theorem Kind.ex {K : PySem.W.Frag} {H H1 : Hp} {v : V} {t : String} (h : Kind K H v t) (e : Ex H H1) : Kind K H1 v t := by
  unfold Kind at *
  generalize ht : Value.type t = tv at h
  cases h with
  | base b =>
    cases b with
    | non => exact .base .non
    | bl x => exact .base (.bl x)
    | int i => exact .base (.int i)
    | str x => exact .base (.str x)
    | flt x => exact .base (.flt x)
    | lst q => exact .base (.lst (e _ _ q))
    | frz q => exact .base (.frz (e _ _ q))
    | tup q => exact .base (.tup (e _ _ q))
    | dK q => exact .base (.dK (e _ _ q))
    | dT q => exact .base (.dT (e _ _ q))
    | ins => cases ht
  | byt b => exact .byt b
  | set q => exact .set (e _ _ q)
  | kList q c => exact .kList q c
  | kTuple q c => exact .kTuple q c
  | kDict q c => exact .kDict q c
  | fTuple q => exact .fTuple (e _ _ q)
  | fDict q => exact .fDict (e _ _ q)
/-- the data of a value, at most one tuple of flat things deep, as an error's field keeps it -/
def Flat : PyData → Prop
  | .none => True
  | .bool _ => True
  | .int _ => True
  | .str _ => True
  | _ => False
def Keeps (d : PyData) : Prop := Flat d ∨ ∃ e, Flat e ∧ d = .tuple [e]
end Qt
/-! Comprehensions over texts; lists of signs. -/
namespace Qt
open PySem PySem.Spec PyProof.Rows L2 Evl
theorem walk_enumS {x : Str} : Walk (Itse x) x.cps.size (fun _ => True) (fun i H v H' => ∃ (T : Addr) (c : Nat), v = .ref T ∧ H T = none ∧ H' = upd H T (.tup [.int (i : Nat), .str ⟨#[c]⟩]) ∧ x.cps[i]? = some c) :=
  ⟨fun _ _ h _ => h, fun _ _ => rfl, fun _ _ _ _ _ _ h => h⟩
section
variable {K : PySem.W.Frag} {σ : L2.St} {H : Hp} {te tl : TE} {t : TT} {ta : TA}
/-- the i-th sign of a text, as a text -/
def sg (z : Str) (i : Nat) : V := .str ⟨#[z.cps.toList.getD i 0]⟩
theorem sg_of {z : Str} {i c : Nat} (h : z.cps[i]? = some c) : V.str ⟨#[c]⟩ = sg z i := by
  unfold sg
  have h2 : z.cps.toList[i]? = some c := by rw [Array.getElem?_toList]; exact h
  rw [List.getD_eq_getElem?_getD, h2]
  rfl
/-- over the signs of a text -/
theorem el_lcS {z : Str} {j : Nat} {vs : List Nat} (f : Nat → Bool) (v : Nat → V) (h : Ev tl σ H (.str z)) (hz : z.length ≤ 40000) (hw : ∀ x, wipe ((wipe σ vs).set j (some x)) vs = wipe σ vs)
    (ht : ∀ (i : Nat) H1, Ex H H1 → i < z.length → EvT t ((wipe σ vs).set j (some (sg z i))) H1 (f i)) (he : ∀ (i : Nat) H1, Ex H H1 → i < z.length → f i = true → Ev te ((wipe σ vs).set j (some (sg z i))) H1 (v i)) :
    EvL (tLc (iStr tl) (gName j) t te vs) σ H (given z.length f v) := fun H0 e Q q => h H0 e _ fun H1 e1 => ⟨z, rfl, fun Dl hD =>
  lc_it walk_str (Cw H1 f v Dl) ⟨hD, Ex.new hD, upd_same⟩ (fun _ _ _ _ => trivial) (fun i x H2 H' hi p y => by
    obtain ⟨rfl, c, hc, rfl⟩ := y
    have hi' : i < z.length := hi
    rw [sg_of hc]
    exact ⟨hw _, cw_turn p (by omega) (ht i H1 (e.trans e1) hi') (fun hf => he i H1 (e.trans e1) hi' hf)⟩) (fun H' p => q Dl H' (fresh_back e1 p.1) (e1.trans p.2.1) p.2.2)⟩
/-- over the numbered signs of a text -/
theorem el_lcSE {z : Str} {j k : Nat} {vs : List Nat} (f : Nat → Bool) (v : Nat → V) (h : EvA ta σ H [.str z]) (hz : z.length ≤ 40000)
    (hw : ∀ x y, wipe (((wipe σ vs).set j (some x)).set k (some y)) vs = wipe σ vs)
    (ht : ∀ (i : Nat) H1, Ex H H1 → i < z.length → EvT t (((wipe σ vs).set j (some (.int (i : Int)))).set k (some (sg z i))) H1 (f i))
    (he : ∀ (i : Nat) H1, Ex H H1 → i < z.length → f i = true → Ev te (((wipe σ vs).set j (some (.int (i : Int)))).set k (some (sg z i))) H1 (v i)) :
    EvL (tLc (iEnumS ta) (gTup K 2 (gCons (gName j) (gCons (gName k) gNil))) t te vs) σ H (given z.length f v) := fun H0 e Q q => h H0 e _ fun H1 e1 => ⟨z, rfl, fun Dl hD =>
  lc_it walk_enumS (Cw H1 f v Dl) ⟨hD, Ex.new hD, upd_same⟩ (fun _ _ _ _ => trivial) (fun i x H2 H' hi p y => by
    obtain ⟨T, c, rfl, nT, rfl, hc⟩ := y
    have hi' : i < z.length := hi
    obtain ⟨p1, p2, p3⟩ := p
    have nTD : Dl ≠ T := ne_of_none p3 nT
    have p' : Cw H1 f v Dl i (upd H2 T (.tup [.int (i : Nat), .str ⟨#[c]⟩])) := ⟨p1, p2.trans (Ex.new nT), by rw [upd_ne nTD]; exact p3⟩
    refine ⟨T, _, rfl, st_of upd_same, rfl, _, _, rfl, _, _, rfl, rfl, ?_⟩
    rw [sg_of hc] at p' ⊢
    exact ⟨hw _ _, cw_turn p' (by omega) (ht i H1 (e.trans e1) hi') (fun hf => he i H1 (e.trans e1) hi' hf)⟩) (fun H' p => q Dl H' (fresh_back e1 p.1) (e1.trans p.2.1) p.2.2)⟩
/-- ... without a test -/
theorem et_yes : EvT tYes σ H true := fun H1 _ _ q => q H1 (Ex.refl H1)
theorem given_all (n : Nat) (v : Nat → V) : given n (fun _ => true) v = (List.range n).map v := by
  unfold given
  rw [List.filter_eq_self.mpr (fun _ _ => rfl)]
/-- a call of a new list -/
theorem ev_cbL {r : List V → Hp → VK → Prop} {xs : List V} {z : V} (h : EvL te σ H xs) (hr : ∀ p H1, H1 p = some (.lst xs) → Ex H H1 → RC r [.ref p] H1 z) : Ev (tCB r (tCons te tNil)) σ H z := fun H1 e Q q =>
  h H1 e _ fun p H2 _ e2 h2 => hr p H2 h2 (e.trans e2) H2 (Ex.refl H2) Q fun H3 e3 => q H3 (e2.trans e3)
theorem rc_all {p : Addr} {bs : List Bool} (h : H p = some (.lst (bs.map V.bl))) : RC (rAll K) [.ref p] H (.bl (bs.all id)) := fun H1 e Q q => ⟨p, bs, rfl, sq_of (e _ _ h), q H1 (Ex.refl H1)⟩
/-- a text sign by sign -/
theorem ev_inSign {c : Nat} {z : Str} {ta tb : TE} (ha : Ev ta σ H (.str ⟨#[c]⟩)) (hb : Ev tb σ H (.str z)) :
    Ev (tOp (fun x y H Q => ∃ (c : Nat) (z : Str), x = .str ⟨#[c]⟩ ∧ y = .str z ∧ Q (.bl (decide (c ∈ z.cps.toList))) H) ta tb) σ H (.bl (decide (c ∈ z.cps.toList))) :=
  ev_op ha hb fun H1 _ _ q => ⟨c, z, rfl, rfl, q H1 (Ex.refl H1)⟩
end
theorem all_range (l : List Nat) (p : Nat → Bool) : ((List.range l.length).map fun i => p (l.getD i 0)).all id = l.all p := by
  rw [List.all_map, Bool.eq_iff_iff, List.all_eq_true, List.all_eq_true]
  constructor
  · intro h c hc
    obtain ⟨i, hi, e⟩ := List.getElem_of_mem hc
    have := h i (List.mem_range.mpr hi)
    simp only [Function.comp, id, List.getD_eq_getElem?_getD, List.getElem?_eq_getElem hi, Option.getD_some] at this
    rw [← e]
    exact this
  · intro h i hi
    have hi' := List.mem_range.mp hi
    simp only [Function.comp, id, List.getD_eq_getElem?_getD, List.getElem?_eq_getElem hi', Option.getD_some]
    exact h _ (List.getElem_mem hi')
end Qt
/-! Lists put together, texts joined, membership. -/
namespace Qt
open PySem PySem.Spec PyProof.Rows L2 Evl
/-! within a comprehension's block the written part is named, since its own is told by what is not known outside -/
section
variable {K : PySem.W.Frag} {σ : L2.St} {H : Hp} {ta tb te tl : TE} {t : TT}
theorem str_app (a b : Str) : (a ++ b).cps.toList = a.cps.toList ++ b.cps.toList := by
  show (a.cps ++ b.cps).toList = _
  simp
theorem sjoin_flat {sep : Str} (hs : sep.cps.toList = []) : ∀ ys : List Str, (Str.join sep ys).cps.toList = (ys.map (·.cps.toList)).flatten
  | [] => rfl
  | [x] => by
    show x.cps.toList = _
    simp
  | x :: y :: r => by
    show (x ++ sep ++ Str.join sep (y :: r)).cps.toList = _
    rw [str_app, str_app, hs, sjoin_flat hs (y :: r)]
    simp
theorem join_flat {sep : Str} (hs : sep.cps.toList = []) (ys : List Str) : (Txt.join sep ys).cps.toList = (ys.map (·.cps.toList)).flatten := by
  show (Builtin.Str.glued sep ys).cps.toList = _
  rw [StrLaws.glued_eq_join, sjoin_flat hs]
theorem str_ext {a b : Str} (h : a.cps.toList = b.cps.toList) : a = b := by
  obtain ⟨x⟩ := a
  obtain ⟨y⟩ := b
  congr 1
  exact Array.toList_inj.mp h
/-- a text of these signs -/
def txt (l : List Nat) : Str := ⟨l.toArray⟩
theorem txt_l (l : List Nat) : (txt l).cps.toList = l := by simp [txt]
theorem txt_len (l : List Nat) : (txt l).length = l.length := by simp [txt, Str.length]
theorem len_l (z : Str) : z.cps.toList.length = z.length := by simp [Str.length]
theorem join_signs {sep : Str} (hs : sep.cps.toList = []) (l : List Nat) : Txt.join sep (l.map fun c => (⟨#[c]⟩ : Str)) = txt l := by
  apply str_ext
  rw [join_flat hs, txt_l, List.map_map]
  induction l with
  | nil => rfl
  | cons c r ih =>
    rw [List.map_cons, List.flatten_cons, ih]
    rfl
theorem sum_signs : ∀ l : List Nat, ((l.map fun c => (⟨#[c]⟩ : Str)).map (·.length)).sum = l.length
  | [] => rfl
  | c :: r => by
    rw [List.map_cons, List.map_cons, List.sum_cons, sum_signs r, List.length_cons, Nat.add_comm]
    rfl
/-- ''.join of a new list of signs -/
theorem ev_join {sep : Str} {l : List Nat} (hs : sep.cps.toList = []) (h : EvL te σ H (l.map fun c => V.str ⟨#[c]⟩)) (hz : l.length ≤ 100000) :
    Ev (tM1 (fun x xs H Q => ∃ a p, ∃ ys : List Str, x = .str a ∧ xs = [.ref p] ∧ (SqL K H p (ys.map V.str) ∨ SqT K H p (ys.map V.str)) ∧ (ys.map (·.length)).sum + ys.length * a.length ≤ 16777216 ∧ Q (.str (Txt.join a ys)) H) (tC (.str sep)) te) σ H (.str (txt l)) := fun H1 e Q q =>
  ⟨⟨sep, rfl⟩, h H1 e _ fun p H2 np e2 h2 => ⟨sep, p, l.map fun c => (⟨#[c]⟩ : Str), rfl, rfl, .inl (sq_of (by rw [h2, List.map_map]; rfl)), by
    have e0 : sep.length = 0 := by rw [← len_l, hs]; rfl
    rw [e0, sum_signs]
    omega, by
    rw [join_signs hs]
    exact q H2 e2⟩⟩
theorem rc_lenS {z : Str} (h : z.length ≤ 100000) : RC (fun xs H Q => ∃ z : Str, xs = [.str z] ∧ z.length ≤ sizeLine ∧ Q (.int (z.length : Int)) H) [.str z] H (.int (z.length : Int)) := fun H1 _ _ q => ⟨z, rfl, sz_of h, q H1 (Ex.refl H1)⟩
end
end Qt
/-! Data that is compared. -/
namespace Qt
open PySem PySem.Spec PyProof.Rows L2 Evl
def dInts (l : List Int) : PyData := .list (l.map PyData.int)
section
variable {K : PySem.W.Frag} {H : Hp}
/-- != of two that are the same -/
theorem ne_same {x y : V} {d : PyData} {Q : VK} (a : Dp K H x d) (b : Dp K H y d) (s : SeqAt.shaped d = true) (q : Q (.bl false) H) : rNeD K x y H Q := by
  refine ⟨d, d, a, b, s, s, ?_⟩
  have e : PyData.eqv d d = true := SeqAt.eqv_refl d (SeqAt.canLay_of_shaped s)
  rw [e]
  exact q
theorem eq_same {x y : V} {d : PyData} {Q : VK} (a : Dp K H x d) (b : Dp K H y d) (s : SeqAt.shaped d = true) (q : Q (.bl true) H) : rEqD K x y H Q := by
  refine ⟨d, d, a, b, s, s, ?_⟩
  have e : PyData.eqv d d = true := SeqAt.eqv_refl d (SeqAt.canLay_of_shaped s)
  rw [e]
  exact q
theorem rv_ne_same {x y : V} {d : PyData} (a : ∀ H1, Ex H H1 → Dp K H1 x d) (b : ∀ H1, Ex H H1 → Dp K H1 y d) (s : SeqAt.shaped d = true) : RV (rNeD K) x y H (.bl false) := fun H1 e Q q => ne_same (a H1 e) (b H1 e) s (q H1 (Ex.refl H1))
end
end Qt
/-! zip of two texts. -/
namespace Qt
open PySem PySem.Spec PyProof.Rows L2 Evl
/-- the signs of two texts, side by side, in new pairs -/
def Itzs (x y : Str) : It := ⟨fun i _ => i < min x.cps.size y.cps.size, fun i H v H' => ∃ (T : Addr) (c d : Nat), v = .ref T ∧ H T = none ∧ H' = upd H T (.tup [.str ⟨#[c]⟩, .str ⟨#[d]⟩]) ∧ x.cps[i]? = some c ∧ y.cps[i]? = some d, fun i _ => i = min x.cps.size y.cps.size⟩
def AtZipS (x y : Str) (t u : Tok) (z TI TO i1 i2 : Addr) (i : Nat) (h : Heap) : Prop := IsZip h z TI TO .none ∧ IsTupOf2 h TI (.ref i1) (.ref i2) ∧ (∃ a1 a2, IsTupOf2 h TO a1 a2) ∧ h.IsStrIter i1 (strIterType x) x t i ∧ h.IsStrIter i2 (strIterType y) y u i
theorem turn_zipS {P : Program} {w : World} {K : PySem.W.Frag} {elts : List Expr} {kk : Nat} {tpos : Pos} {x y : Str} {t u : Tok} {z TI TO i1 i2 : Addr} (D : ZipSep2 z TI TO i1 i2 [i1] [i2]) :
    Turn P w K (.Tuple elts kk tpos) (Itzs x y) [z, TI, TO, i1, i2] z (fun i h => AtZipS x y t u z TI TO i1 i2 i h) where
  mem := by simp
  obj := fun i h st c hc => by
    obtain ⟨hz, hTI, ⟨a, b, hTO⟩, ⟨o1, e1, _, d1⟩, ⟨o2, e2, _, d2⟩⟩ := st
    have e' : c = z ∨ c = TI ∨ c = TO ∨ c = i1 ∨ c = i2 := by simpa using hc
    rcases e' with q | q | q | q | q
    · rw [q]; exact ⟨_, hz, fun v q => nomatch q⟩
    · rw [q]; exact ⟨_, hTI, fun v q => nomatch q⟩
    · rw [q]; exact ⟨_, hTO, fun v q => nomatch q⟩
    · rw [q]; exact ⟨o1, e1, fun v q => by rw [d1] at q; cases q⟩
    · rw [q]; exact ⟨o2, e2, fun v q => by rw [d2] at q; cases q⟩
  keep := fun i h h' st k => by
    obtain ⟨hz, hTI, ⟨a, b, hTO⟩, ⟨o1, e1, r1⟩, ⟨o2, e2, r2⟩⟩ := st
    exact ⟨k z (by simp) _ hz, k TI (by simp) _ hTI, ⟨a, b, k TO (by simp) _ hTO⟩, ⟨o1, k i1 (by simp) _ e1, r1⟩, ⟨o2, k i2 (by simp) _ e2, r2⟩⟩
  item := by
    intro X hP hw hK hc i pins s σ H E I hf st hg
    subst hP hw hK
    have W := WalksT.zipD2 D (Draws.text (prog := X.prog) (w := X.w) (A := X.A.in1) (I.ok.hd hc) i1 x t) (Draws.text (prog := X.prog) (w := X.w) (A := X.A.in1) (I.ok.hd hc) i2 y u)
    have live : ∀ b ∈ [z, TI, TO, i1, i2], b < s.heap.objs.size := fun b hb => by
      obtain ⟨hz, hTI, ⟨a, b', hTO⟩, ⟨o1, e1, _, d1⟩, ⟨o2, e2, _, d2⟩⟩ := st
      have e' : b = z ∨ b = TI ∨ b = TO ∨ b = i1 ∨ b = i2 := by simpa using hb
      rcases e' with q | q | q | q | q
      · rw [q]; exact Heap.lt_size hz
      · rw [q]; exact Heap.lt_size hTI
      · rw [q]; exact Heap.lt_size hTO
      · rw [q]; exact Heap.lt_size e1
      · rw [q]; exact Heap.lt_size e2
    refine W.item i s _ _ hg st fun T vals h' tk hp hT ht hm hk => ?_
    obtain ⟨v1, v2, ⟨c, t1, hcx, rfl⟩, ⟨d, t2, hdy, rfl⟩, rfl⟩ := hp
    refine ⟨.ref T, rfl, W.go elts kk tpos i T { s with heap := h', toks := tk } _ _ hm fun h'' hst hk2 => ?_⟩
    obtain ⟨oT, hT1, hT2, nT, hT3⟩ := ht
    have nT' : T ∉ [z, TO, i1, i2] := W.apart i T _ hm
    have hT4 : h''.get? T = some oT := hk2 T oT nT' hT1
    have new : ObjOk X.prog X.w (upd H T (.tup [.str ⟨#[c]⟩, .str ⟨#[d]⟩])) h'' T (.tup [.str ⟨#[c]⟩, .str ⟨#[d]⟩]) :=
      ⟨by show 2 ≤ sizeLine; decide, [.str ⟨#[c]⟩ t1, .str ⟨#[d]⟩ t2], .cons ⟨_, rfl⟩ (.cons ⟨_, rfl⟩ .nil), ⟨_, hT4, hT2, _, hT3⟩⟩
    have sub : ∀ b, b ∉ [z, TI, TO, i1, i2] → b ∉ [z, TO, i1, i2] := fun b hb h => hb (by
      have e' : b = z ∨ b = TO ∨ b = i1 ∨ b = i2 := by simpa using h
      rcases e' with q | q | q | q <;> simp [q])
    have I1 : Inv X pins σ (upd H T (.tup [.str ⟨#[c]⟩, .str ⟨#[d]⟩])) { s with heap := h'', toks := tk } :=
      I.turnedNew (ch := [z, TI, TO, i1, i2]) (fun b ob hb q => hk2 b ob (sub b hb) (hk b ob (sub b hb) q)) hf hT new
    refine ⟨.ref T, _, I1, rfl, ⟨T, c, d, rfl, I.hok.fresh hT, rfl, hcx, hdy⟩, hst, fun b hb => ?_⟩
    rw [upd_ne (Nat.ne_of_lt (Nat.lt_of_lt_of_le (live b hb) hT))]
    exact (hf b hb).1
  done := by
    intro X hP hw hK hc i pins s σ H E I hf st hg
    subst hP hw hK
    have W := WalksT.zipD2 D (Draws.text (prog := X.prog) (w := X.w) (A := X.A.in1) (I.ok.hd hc) i1 x t) (Draws.text (prog := X.prog) (w := X.w) (A := X.A.in1) (I.ok.hd hc) i2 y u)
    have hi : i = min x.cps.size y.cps.size := hg
    have st' : AtZipS x y t u z TI TO i1 i2 (min x.cps.size y.cps.size) s.heap := hi ▸ st
    have sub : ∀ b, b ∉ [z, TI, TO, i1, i2] → b ∉ [z, TO, i1, i2] := fun b hb h => hb (by
      have e' : b = z ∨ b = TO ∨ b = i1 ∨ b = i2 := by simpa using h
      rcases e' with q | q | q | q <;> simp [q])
    exact W.done s _ _ st' fun h' tk hk => ⟨rfl, I.turnedL (t' := tk) (ch := [z, TI, TO, i1, i2]) (fun c o hb q => hk c o (sub c hb) q) hf⟩
  self := fun A i s Q E st h => wpAny_pyIter_zip st.1 h
def iZipS (ta : TA) : TI := fun σ H R => ta σ H fun vs H1 => ∃ x y, vs = [.str x, .str y] ∧ R (Itzs x y) H1
theorem pi_zipS {X : Cx} {e e2 : Expr} {ta : TA} {p pos tpos : Pos} {elts : List Expr} {kk : Nat} (hg : Gl X "zip") (hm : X.mg "zip" = none) (ha : PA X [e, e2] ta)
    (hs : starEach [e, e2] X.env = (false, eval e X.env) :: starEach [e2] X.env := by rfl) (hpl : (backTo pos (starEach [e2] X.env)).any (·.1) = false := by rfl) :
    PI X (.Tuple elts kk tpos) (.Call (.Name "zip" p) [e, e2] [] pos) (iZipS ta) := by
  refine ⟨fun pins s σ H R I h => ?_⟩
  refine Call_ (ld_blt I hg hm PyProof.Rows.boot_zip (PyProof.Rows.callWith_type1 (thn (ha.run pos pins s σ H _ I h) fun us s1 hh => ?_) hs hpl))
  obtain ⟨vs, H1, I1, r1, x, y, ex, q⟩ := hh
  subst ex
  cases r1 with
  | cons r rr =>
    cases rr with
    | cons r' rr =>
      cases rr
      obtain ⟨t, rfl⟩ := r
      obtain ⟨u, rfl⟩ := r'
      refine zip_begins2 (begins_text x t) (begins_text y u) trivial trivial fun h' hz hTI hTO g1 g2 hsz hk => wpAny_pyIter_zip hz ?_
      have I2 : Inv X pins σ H1 { s1 with heap := h' } := I1.kept (t' := s1.toks) hk
      have D : ZipSep2 (s1.heap.objs.size + 4) (s1.heap.objs.size + 2) (s1.heap.objs.size + 3) s1.heap.objs.size (s1.heap.objs.size + 1) [s1.heap.objs.size] [s1.heap.objs.size + 1] := by
        generalize s1.heap.objs.size = n
        constructor <;> (try simp only [List.mem_singleton]) <;> (show _ → False; intro (z : (_ : Nat) = _); omega) <;> omega
      refine ⟨s1.heap.objs.size + 4, [s1.heap.objs.size + 4, s1.heap.objs.size + 2, s1.heap.objs.size + 3, s1.heap.objs.size, s1.heap.objs.size + 1], _, _, H1, rfl, I2, turn_zipS D, ⟨hz, hTI, ⟨_, _, hTO⟩, ⟨_, g1, rfl, rfl⟩, ⟨_, g2, rfl, rfl⟩⟩, fun c hcm => ?_, q⟩
      have e' : c = s1.heap.objs.size + 4 ∨ c = s1.heap.objs.size + 2 ∨ c = s1.heap.objs.size + 3 ∨ c = s1.heap.objs.size ∨ c = s1.heap.objs.size + 1 := by simpa using hcm
      have hle : s1.heap.objs.size ≤ c := by
        rcases e' with z | z | z | z | z
        · rw [z]; exact Nat.le_add_right _ _
        · rw [z]; exact Nat.le_add_right _ _
        · rw [z]; exact Nat.le_add_right _ _
        · rw [z]; exact Nat.le_refl _
        · rw [z]; exact Nat.le_add_right _ _
      exact I1.fpOk hle (I1.hok.fresh hle)
end Qt
/-! Comprehensions over pairs; counting signs; a tuple of one taken many times. -/
namespace Qt
open PySem PySem.Spec PyProof.Rows L2 Evl
theorem walk_zipS {x y : Str} : Walk (Itzs x y) (min x.cps.size y.cps.size) (fun _ => True) (fun i H v H' => ∃ (T : Addr) (c d : Nat), v = .ref T ∧ H T = none ∧ H' = upd H T (.tup [.str ⟨#[c]⟩, .str ⟨#[d]⟩]) ∧ x.cps[i]? = some c ∧ y.cps[i]? = some d) :=
  ⟨fun _ _ h _ => h, fun _ _ => rfl, fun _ _ _ _ _ _ h => h⟩
section
variable {K : PySem.W.Frag} {σ : L2.St} {H : Hp} {te tl to : TE} {t : TT} {ta : TA}
/-- over the signs of two texts of one length -/
theorem el_lcZS {x y : Str} {j k : Nat} {vs : List Nat} (f : Nat → Bool) (v : Nat → V) (h : EvA ta σ H [.str x, .str y]) (hz : x.length ≤ 40000) (hl : y.length = x.length)
    (hw : ∀ a b, wipe (((wipe σ vs).set j (some a)).set k (some b)) vs = wipe σ vs)
    (ht : ∀ (i : Nat) H1, Ex H H1 → i < x.length → EvT t (((wipe σ vs).set j (some (sg x i))).set k (some (sg y i))) H1 (f i))
    (he : ∀ (i : Nat) H1, Ex H H1 → i < x.length → f i = true → Ev te (((wipe σ vs).set j (some (sg x i))).set k (some (sg y i))) H1 (v i)) :
    EvL (tLc (iZipS ta) (gTup K 2 (gCons (gName j) (gCons (gName k) gNil))) t te vs) σ H (given x.length f v) := fun H0 e Q q => h H0 e _ fun H1 e1 => ⟨x, y, rfl, fun Dl hD => by
  have hm : min x.cps.size y.cps.size = x.length := by
    have : y.cps.size = x.cps.size := hl
    rw [this, Nat.min_self]
    rfl
  refine lc_it walk_zipS (Cw H1 f v Dl) ⟨hD, Ex.new hD, upd_same⟩ (fun _ _ _ _ => trivial) (fun i z H2 H' hi p y' => ?_) (fun H' p => ?_)
  · obtain ⟨T, c, d, rfl, nT, rfl, hc, hd⟩ := y'
    have hi' : i < x.length := by rw [← hm]; exact hi
    obtain ⟨p1, p2, p3⟩ := p
    have nTD : Dl ≠ T := ne_of_none p3 nT
    have p' : Cw H1 f v Dl i (upd H2 T (.tup [.str ⟨#[c]⟩, .str ⟨#[d]⟩])) := ⟨p1, p2.trans (Ex.new nT), by rw [upd_ne nTD]; exact p3⟩
    refine ⟨T, _, rfl, st_of upd_same, rfl, _, _, rfl, _, _, rfl, rfl, ?_⟩
    rw [sg_of hc, sg_of hd] at p' ⊢
    exact ⟨hw _ _, cw_turn p' (by omega) (ht i H1 (e.trans e1) hi') (fun hf => he i H1 (e.trans e1) hi' hf)⟩
  · rw [hm] at p
    exact q Dl H' (fresh_back e1 p.1) (e1.trans p.2.1) p.2.2⟩
/-- the length of a new list -/
theorem rc_lenL {a : Addr} {xs : List V} (h : SqL K H a xs) : RC (fun xs H Q => ∃ x n, xs = [x] ∧ LenV K x H n ∧ Q (.int (n : Int)) H) [.ref a] H (.int (xs.length : Int)) := fun H1 e _ q =>
  ⟨.ref a, xs.length, rfl, .inl ⟨xs, ex_l e h, rfl⟩, q H1 (Ex.refl H1)⟩
theorem ev_lenL {xs : List V} (h : EvL te σ H xs) : Ev (tCB (fun xs H Q => ∃ x n, xs = [x] ∧ LenV K x H n ∧ Q (.int (n : Int)) H) (tCons te tNil)) σ H (.int (xs.length : Int)) := ev_cbL h fun _ _ hp _ => rc_lenL (sq_of hp)
theorem cnt_len (c : Nat) : ∀ l : List Nat, cnt c l = ((l.countP fun d => decide (d = c) : Nat) : Int)
  | [] => rfl
  | d :: r => by
    rw [cnt_cons, cnt_len c r, List.countP_cons]
    by_cases h : d = c
    · rw [if_pos h, if_pos (by simpa using h)]; omega
    · rw [if_neg h, if_neg (by simpa using h)]; omega
/-- how often a sign stands in a text -/
theorem ev_count {z : Str} {c : Nat} (h0 : Ev to σ H (.str z)) (h : Ev te σ H (.str ⟨#[c]⟩)) :
    Ev (tM1 (fun x xs H Q => ∃ a b, x = .str a ∧ xs = [.str b] ∧ Q (.int (Txt.count a b)) H) to te) σ H (.int ((z.cps.toList.countP fun d => decide (d = c) : Nat) : Int)) := fun H1 e Q q =>
  h0 H1 e _ fun H2 e2 => ⟨⟨z, rfl⟩, h H2 (e.trans e2) _ fun H3 e3 => ⟨z, ⟨#[c]⟩, rfl, rfl, by
    rw [count_cnt, cnt_len]
    exact q H3 (e2.trans e3)⟩⟩
theorem count_range (l : List Nat) (p : Nat → Bool) : l.countP p = ((List.range l.length).filter fun i => p (l.getD i 0)).length := by
  rw [← List.countP_eq_length_filter]
  have e : l = (List.range l.length).map fun i => l.getD i 0 := by
    apply List.ext_getElem
    · simp
    · intro i h1 h2
      simp [List.getD_eq_getElem?_getD, List.getElem?_eq_getElem h1]
  conv => lhs; rw [e, List.countP_map]
  rfl
end
/-! ### a tuple of one, taken k times -/
def rRepT1 (K : PySem.W.Frag) : R2 := fun x y H Q => ∃ l k xs, x = .ref l ∧ y = .int k ∧ SqT K H l xs ∧ xs ≠ [] ∧ 1 ≤ k ∧ k ≤ 1000 ∧ xs.length ≤ 1000 ∧ (k = 1 → Q (.ref l) H) ∧ (2 ≤ k → ∀ p, H p = none → Q (.ref p) (upd H p (.tup (List.replicate k.toNat xs).flatten)))
end Qt
namespace Qt
open PySem PySem.Spec PyProof.Rows L2 Evl
section
variable {K : PySem.W.Frag} {σ : L2.St} {H : Hp} {te : TE} {t : TT} {ta : TA} {D : Ends} {tu tz : TS}
/-- for over range(n), n of either sign -/
theorem q_forRn {j : Nat} {n : Int} (h : EvA ta σ H [.int n]) (hn : -100000 ≤ n ∧ n ≤ 100000) (Pv : Nat → L2.St → Hp → Prop) (h0 : ∀ H1, Ex H H1 → Pv 0 σ H1)
    (hs : ∀ (i : Nat) σ' H', (i : Int) < n → Pv i σ' H' → tu { D with nx := Pv (i + 1), ct := Pv (i + 1), bk := tz D } (σ'.set j (some (.int (i : Int)))) H')
    (hd : ∀ σ' H', Pv n.toNat σ' H' → tz D σ' H') : tSeq (tFor (iRng1 ta) (gName j) tu) tz D σ H :=
  h H (Ex.refl H) _ fun H1 e => by
  refine ⟨n, rfl, by omega, by omega, ?_⟩
  refine for_it (D := { D with nx := tz D }) (walk_range (lo := 0) (n := n.toNat)) Pv (h0 H1 e) (fun _ _ _ _ _ => trivial) (fun i x σ' H2 H' hi p y => ?_) hd
  obtain ⟨rfl, rfl⟩ := y
  dsimp only
  rw [Int.zero_add]
  exact hs i σ' _ (by omega) p
end
end Qt
/-! len(set(xs)) of a list of texts. -/
namespace Qt
open PySem PySem.Spec PyProof.Rows L2 Evl
section
variable {P : Program} {w : World}
/-- a set of these texts, n of them distinct -/
def SetS (P : Program) (w : World) (xs : List Str) (S : Addr) (h : Heap) : Prop := ∃ n, n ≤ xs.length ∧ (n = xs.length ↔ xs.Nodup) ∧ h.SetOf (PySem.strKind P w) S (fun k => decide (k ∈ xs)) n
end
section
variable {X : Cx}
def tLenSetS (K : PySem.W.Frag) (ta : TE) : TE := fun σ H Q => ta σ H fun x H1 => ∃ (l : Addr) (xs : List Str), x = .ref l ∧ SqL K H1 l (xs.map V.str) ∧ xs.length ≤ 2000 ∧ ∀ n : Nat, n ≤ xs.length → (n = xs.length ↔ xs.Nodup) → Q (.int (n : Int)) H1
end
end Qt
/-! min(xs, default=None) of a list of ints. -/
namespace Qt
open PySem PySem.Spec PyProof.Rows L2 Evl
section
variable {P : Program} {w : World} {A : Around} {E : Value → Shared → Prop} {s : Shared}
abbrev kwD : List (Str × Value) := [(PySem.Str.ofString "default", .none)]
abbrev bestO (vs : Array Value) (c : Nat) : Obj := { cls := .type "list", dict := none, data := .seq vs c, slots := #[] }
section
variable {R : Result → Shared → Prop} {I S : Addr} {fp wr : List Addr} {n : Nat} {Pv : Nat → Value → Prop} {St : Nat → Heap → Prop}
end
end
section
variable {X : Cx}
/-- min(xs, default=None) -/
def rMinD (K : PySem.W.Frag) : List V → List V → Hp → VK → Prop := fun vs zs H Q => ∃ (a : Addr) (ns : List Int), vs = [.ref a] ∧ zs = [.non] ∧ SqL K H a (ns.map V.int) ∧ (ns = [] → Q .non H) ∧ ∀ m, m ∈ ns → (∀ k ∈ ns, m ≤ k) → Q (.int m) H
end
end Qt
/-! Comprehensions of two fors. -/
namespace Qt
open PySem PySem.Spec PyProof.Rows L2 Evl
section
variable {J J1 : It} {n n1 : Nat} {G G1 : Hp → Prop} {Y Y1 : Nat → Hp → V → Hp → Prop}
/-- the outer for -/
theorem lc2_out (w : Walk J n G Y) {B : V → Hp → (Hp → Prop) → Prop} {H1 : Hp} {D : Addr} {Qd : Hp → Prop} (Pv : Nat → Hp → Prop) (h0 : Pv 0 (upd H1 D (.lst []))) (hG : ∀ i H, i ≤ n → Pv i H → G H)
    (hs : ∀ i x H H', i < n → Pv i H → Y i H x H' → B x H' (Pv (i + 1))) (hd : ∀ H, Pv n H → Qd H) :
    ∃ W : Nat → Nat → Hp → Prop, (∃ m, W 0 m (upd H1 D (.lst []))) ∧ ∀ i m H, W i m H → (J.stop i H ∧ Qd H) ∨ (J.go i H ∧ ∃ Nx : Hp → Prop, (∀ H', Nx H' → ∃ m', m' < m ∧ W (i + 1) m' H') ∧ ∀ x H', J.yld i H x H' → B x H' Nx) := by
  refine ⟨fun i m H => m = n - i ∧ i ≤ n ∧ Pv i H, ⟨n, by simp, Nat.zero_le _, h0⟩, ?_⟩
  rintro i m H ⟨rfl, hi, p⟩
  have q := hG i H hi p
  by_cases lt : i < n
  · exact .inr ⟨w.goes i H lt q, Pv (i + 1), fun H' p' => ⟨n - (i + 1), by omega, rfl, lt, p'⟩, fun x H' y => hs i x H H' lt p (w.yields i H x H' lt q y)⟩
  · obtain rfl : i = n := by omega
    exact .inl ⟨w.stops H q, hd H p⟩
/-- the inner for -/
theorem lc2_in (w : Walk J1 n1 G1 Y1) {B : V → Hp → (Hp → Prop) → Prop} {H4 : Hp} {Nx : Hp → Prop} (Pv : Nat → Hp → Prop) (h0 : Pv 0 H4) (hG : ∀ i H, i ≤ n1 → Pv i H → G1 H)
    (hs : ∀ i x H H', i < n1 → Pv i H → Y1 i H x H' → B x H' (Pv (i + 1))) (hd : ∀ H, Pv n1 H → Nx H) :
    ∃ W : Nat → Nat → Hp → Prop, (∃ m, W 0 m H4) ∧ ∀ i m H, W i m H → (J1.stop i H ∧ Nx H) ∨ (J1.go i H ∧ ∃ Mx : Hp → Prop, (∀ H', Mx H' → ∃ m', m' < m ∧ W (i + 1) m' H') ∧ ∀ x H', J1.yld i H x H' → B x H' Mx) := by
  refine ⟨fun i m H => m = n1 - i ∧ i ≤ n1 ∧ Pv i H, ⟨n1, by simp, Nat.zero_le _, h0⟩, ?_⟩
  rintro i m H ⟨rfl, hi, p⟩
  have q := hG i H hi p
  by_cases lt : i < n1
  · exact .inr ⟨w.goes i H lt q, Pv (i + 1), fun H' p' => ⟨n1 - (i + 1), by omega, rfl, lt, p'⟩, fun x H' y => hs i x H H' lt p (w.yields i H x H' lt q y)⟩
  · obtain rfl : i = n1 := by omega
    exact .inl ⟨w.stops H q, hd H p⟩
end
section
variable {K : PySem.W.Frag} {σ : L2.St} {H : Hp} {te til : TE} {ta : TA}
/-- what two fors give, up to the outer turn i -/
def given2 (m : Nat → Nat) (v : Nat → Nat → V) (i : Nat) : List V := (List.range i).flatMap fun a => (List.range (m a)).map (v a)
theorem given2_succ (m : Nat → Nat) (v : Nat → Nat → V) (i : Nat) : given2 m v (i + 1) = given2 m v i ++ (List.range (m i)).map (v i) := by
  unfold given2
  rw [List.range_succ, List.flatMap_append, List.flatMap_singleton]
theorem yes_if {σ : L2.St} {H : Hp} {A B : Hp → Prop} (h : A H) : tYes σ H fun b H3 => if b = true then A H3 else B H3 := iteT (B := B H) h
end
theorem pi_listK {X : Cx} {tg e : Expr} {te : TE} (K : PySem.W.Frag) (h : X.K = K) (he : PE X e te) : PI X tg e (iList K te) := h ▸ pi_list he
end Qt
/-! a slice of a tuple, the whole of it too. -/
namespace Qt
open PySem PySem.Spec PyProof.Rows L2 Evl
section
variable {prog : Program} {w : World} {A : Around} {E : Value → Shared → Prop} {s : Shared}
end
/-- t[lo:hi]: a new tuple, or t itself where it is the whole -/
def rSlTW (K : PySem.W.Frag) : V → Option Int → Option Int → Hp → VK → Prop := fun x lo hi H Q => ∃ a xs, x = .ref a ∧ SqT K H a xs ∧
  (HT.sIx xs.length 0 lo = 0 → HT.sIx xs.length xs.length hi = xs.length → Q (.ref a) H) ∧
  (¬ (HT.sIx xs.length 0 lo = 0 ∧ HT.sIx xs.length xs.length hi = xs.length) → ∀ p, H p = none → Q (.ref p) (upd H p (.tup (cutV xs lo hi))))
end Qt
/-! Lists by their value, truth of a text, slices to a bound. -/
namespace Qt
open PySem PySem.Spec PyProof.Rows L2 Evl
section
variable {K : PySem.W.Frag} {σ : L2.St} {H : Hp} {ta tb te tl : TE} {t : TT}
theorem el_is {xs ys : List V} (h : EvL te σ H xs) (e : xs = ys) : EvL te σ H ys := by
  rw [← e]
  exact h
theorem rv_addS {x y : Str} (h : x.length + y.length ≤ 100000) : RV (fun x y H Q => ∃ i j, x = .str i ∧ y = .str j ∧ i.length + j.length ≤ sizeLine ∧ Q (.str (i ++ j)) H) (.str x) (.str y) H (.str (x ++ y)) := fun H1 _ _ q =>
  ⟨x, y, rfl, rfl, sz_of h, q H1 (Ex.refl H1)⟩
end
theorem app_len (a b : Str) : (a ++ b).length = a.length + b.length := by
  rw [← len_l, str_app, List.length_append, len_l, len_l]
end Qt
/-! min(xs, default=a number); comprehensions of two fors, further. -/
namespace Qt
open PySem PySem.Spec PyProof.Rows L2 Evl
section
variable {P : Program} {w : World} {dv : Value} {A : Around} {E : Value → Shared → Prop} {s : Shared}
abbrev kwE (d : Value) : List (Str × Value) := [(PySem.Str.ofString "default", d)]
section
variable {R : Result → Shared → Prop} {I S : Addr} {fp wr : List Addr} {n : Nat} {Pv : Nat → Value → Prop} {St : Nat → Heap → Prop}
end
end
section
variable {X : Cx}
/-- min(xs, default=a number) -/
def rMinE (K : PySem.W.Frag) : List V → List V → Hp → VK → Prop := fun vs zs H Q => ∃ (a : Addr) (ns : List Int), vs = [.ref a] ∧ (∃ z0, zs = [.int z0] ∧ (ns = [] → Q (.int z0) H)) ∧ SqL K H a (ns.map V.int) ∧ ∀ m, m ∈ ns → (∀ k ∈ ns, m ≤ k) → Q (.int m) H
end
section
variable {K : PySem.W.Frag} {σ : L2.St} {H : Hp} {te til tl : TE} {ta : TA}
theorem given2_lenB (m : Nat → Nat) (v : Nat → Nat → V) (i B : Nat) (h : ∀ a, m a ≤ B) : (given2 m v i).length ≤ i * B := by
  induction i with
  | zero => simp [given2]
  | succ i ih =>
    rw [given2_succ, List.length_append, List.length_map, List.length_range, Nat.succ_mul]
    have := h i
    omega
/-- for x in xs for s in a text, no test -/
theorem el_lc2LS {a : Addr} {xs : List V} {z : Str} {j l : Nat} {vs vs1 : List Nat} (v : Nat → Nat → V) (h : Ev tl σ H (.ref a)) (hx : SqL K H a xs) (hz : xs.length ≤ 5000) (hy : z.length ≤ 10)
    (hw : ∀ x, wipe ((wipe σ vs).set j (some x)) vs = wipe σ vs)
    (hw1 : ∀ x s, wipe ((wipe ((wipe σ vs).set j (some x)) vs1).set l (some s)) vs1 = wipe ((wipe σ vs).set j (some x)) vs1)
    (hi : ∀ (i : Nat) y H1, Ex H H1 → xs[i]? = some y → Ev til ((wipe σ vs).set j (some y)) H1 (.str z))
    (he : ∀ (i m : Nat) y H1, Ex H H1 → xs[i]? = some y → m < z.length → Ev te ((wipe ((wipe σ vs).set j (some y)) vs1).set l (some (sg z m))) H1 (v i m)) :
    EvL (tLc2 (iList K tl) (gName j) tYes (iStr til) (gName l) tYes te vs vs1) σ H (given2 (fun _ => z.length) v xs.length) := fun H0 e Q q => h H0 e _ fun H1 e1 => ⟨a, rfl, ⟨xs, ex_l (e.trans e1) hx⟩, fun Dl hD => by
  have hm := fun i => given2_lenB (fun _ => z.length) v i 10 (fun _ => hy)
  refine lc2_out (walk_list (xs := xs)) (fun i H' => Ex H1 H' ∧ H' Dl = some (.lst (given2 (fun _ => z.length) v i))) ⟨Ex.new hD, upd_same⟩ (fun _ _ _ p => ex_l p.1 (ex_l (e.trans e1) hx)) (fun i y H2 H' hlt p y' => ?_) (fun H' p => q Dl H' (fresh_back e1 hD) (e1.trans p.1) p.2)
  obtain ⟨rfl, hy'⟩ := y'
  obtain ⟨p1, p2⟩ := p
  refine ⟨hw _, ?_⟩
  refine yes_if ?_
  refine hi i y H1 (e.trans e1) hy' _ p1 _ fun H3 e3 => ⟨z, rfl, ?_⟩
  refine lc2_in (walk_str (z := z)) (fun m H' => Ex H1 H' ∧ H' Dl = some (.lst (given2 (fun _ => z.length) v i ++ (List.range m).map (v i)))) ⟨p1.trans e3, by rw [List.range_zero, List.map_nil, List.append_nil]; exact e3 _ _ p2⟩ (fun _ _ _ p => trivial) (fun m s H4 H5 hmlt p y2 => ?_) (fun H' p => ?_)
  · obtain ⟨rfl, c, hc, rfl⟩ := y2
    obtain ⟨g1, g2⟩ := p
    have hml : m < z.length := hmlt
    refine ⟨hw1 _ _, ?_⟩
    refine yes_if ?_
    rw [sg_of hc]
    refine he i m y H1 (e.trans e1) hy' hml _ g1 _ fun H6 e6 => ⟨_, e6 _ _ g2, ?_, Ex.mut (g1.trans e6) hD, ?_⟩
    · have b1 := hm i
      rw [List.length_append, List.length_map, List.length_range, sizeLine_eq]
      omega
    · rw [upd_same, List.range_succ, List.map_append, List.append_assoc]
      rfl
  · refine ⟨p.1, ?_⟩
    rw [given2_succ]
    exact p.2⟩
/-- for i in range(lo, n) for x in a new list, no test -/
theorem el_lc2RL {lo n : Int} {ys : Nat → List V} {j l : Nat} {vs vs1 : List Nat} (v : Nat → Nat → V) (h : EvA ta σ H [.int lo, .int n]) (hn : 0 ≤ lo ∧ lo ≤ 1000 ∧ n ≤ lo + 40 ∧ -1000 ≤ n) (hy : ∀ i, (ys i).length ≤ 2000)
    (hw : ∀ x, wipe ((wipe σ vs).set j (some x)) vs = wipe σ vs)
    (hw1 : ∀ x s, wipe ((wipe ((wipe σ vs).set j (some x)) vs1).set l (some s)) vs1 = wipe ((wipe σ vs).set j (some x)) vs1)
    (hi : ∀ (i : Nat) H1, Ex H H1 → lo + (i : Int) < n → EvL til ((wipe σ vs).set j (some (.int (lo + (i : Int))))) H1 (ys i))
    (he : ∀ (i m : Nat) z H1, Ex H H1 → lo + (i : Int) < n → (ys i)[m]? = some z → Ev te ((wipe ((wipe σ vs).set j (some (.int (lo + (i : Int))))) vs1).set l (some z)) H1 (v i m)) :
    EvL (tLc2 (iRng2 ta) (gName j) tYes (iList K til) (gName l) tYes te vs vs1) σ H (given2 (fun i => (ys i).length) v (n - lo).toNat) := fun H0 e Q q => h H0 e _ fun H1 e1 => ⟨lo, n, rfl, by omega, fun Dl hD => by
  have hm := fun i => given2_lenB (fun i => (ys i).length) v i 2000 hy
  refine lc2_out (walk_range (lo := lo) (n := (n - lo).toNat)) (fun i H' => Ex H1 H' ∧ H' Dl = some (.lst (given2 (fun i => (ys i).length) v i))) ⟨Ex.new hD, upd_same⟩ (fun _ _ _ p => trivial) (fun i y H2 H' hlt p y' => ?_) (fun H' p => q Dl H' (fresh_back e1 hD) (e1.trans p.1) p.2)
  obtain ⟨rfl, rfl⟩ := y'
  obtain ⟨p1, p2⟩ := p
  have hlt' : lo + (i : Int) < n := by omega
  refine ⟨hw _, ?_⟩
  refine yes_if ?_
  refine hi i H1 (e.trans e1) hlt' _ p1 _ fun L H3 nL e3 hL => ⟨L, rfl, ⟨_, sq_of hL⟩, ?_⟩
  have dD := e3 _ _ p2
  have nLD : Dl ≠ L := fun z => by
    rw [← z, p2] at nL
    cases nL
  refine lc2_in (walk_list (xs := ys i)) (fun m H' => Ex H1 H' ∧ H' Dl = some (.lst (given2 (fun i => (ys i).length) v i ++ (List.range m).map (v i))) ∧ H' L = some (.lst (ys i))) ⟨p1.trans e3, by rw [List.range_zero, List.map_nil, List.append_nil]; exact dD, hL⟩ (fun _ _ _ p => sq_of p.2.2) (fun m z H4 H5 hmlt p y2 => ?_) (fun H' p => ?_)
  · obtain ⟨rfl, hz2⟩ := y2
    obtain ⟨g1, g2, g3⟩ := p
    refine ⟨hw1 _ _, ?_⟩
    refine yes_if ?_
    refine he i m z H1 (e.trans e1) hlt' hz2 _ g1 _ fun H6 e6 => ⟨_, e6 _ _ g2, ?_, Ex.mut (g1.trans e6) hD, ?_, ?_⟩
    · have b1 := hm i
      have b2 := hy i
      rw [List.length_append, List.length_map, List.length_range, sizeLine_eq]
      have : i ≤ 40 := by omega
      omega
    · rw [upd_same, List.range_succ, List.map_append, List.append_assoc]
      rfl
    · rw [upd_ne nLD.symm]
      exact e6 _ _ g3
  · refine ⟨p.1, ?_⟩
    rw [given2_succ]
    exact p.2.1⟩
end
section
variable {X : Cx} {o e : Expr} {to te : TE}
end
end Qt
/-! Lists of texts as data; min with a default as a value; lists put together. -/
namespace Qt
open PySem PySem.Spec PyProof.Rows L2 Evl
def lowS (z : Str) : Prop := ∀ c ∈ z.cps.toList, c < 256
theorem mem_getDL {α : Type} {l : List α} {i : Nat} {d : α} (h : i < l.length) : l.getD i d ∈ l := by
  rw [List.getD_eq_getElem?_getD, List.getElem?_eq_getElem h]
  exact List.getElem_mem h
theorem range_map_getD {α β : Type} (l : List α) (d : α) (g : α → β) : (List.range l.length).map (fun i => g (l.getD i d)) = l.map g := by
  apply List.ext_getElem
  · simp
  · intro i h1 h2
    simp only [List.length_map] at h2
    simp [List.getD_eq_getElem?_getD, List.getElem?_eq_getElem h2]
theorem range_flat_getD {α β : Type} (l : List α) (d : α) (g : α → List β) : (List.range l.length).flatMap (fun i => g (l.getD i d)) = l.flatMap g := by
  rw [List.flatMap_def, List.flatMap_def, range_map_getD l d g]
section
variable {K : PySem.W.Frag} {σ : L2.St} {H : Hp} {te ta tb : TE}
end
end Qt
/-! zip of a text and a list; list of a text; enumerate of a list or a tuple. -/
namespace Qt
open PySem PySem.Spec PyProof.Rows L2 Evl
/-- the signs of a text beside the items of a list, in new pairs -/
def Itzm (K : PySem.W.Frag) (x : Str) (b : Addr) : It := ⟨fun i H => ∃ ys, SqL K H b ys ∧ i < min x.cps.size ys.length,
  fun i H v H' => ∃ (T : Addr) (c : Nat) (y : V), v = .ref T ∧ H T = none ∧ H' = upd H T (.tup [.str ⟨#[c]⟩, y]) ∧ x.cps[i]? = some c ∧ ∀ ys, SqL K H b ys → ys[i]? = some y, fun i H => ∃ ys, SqL K H b ys ∧ i = min x.cps.size ys.length⟩
def AtZipM (x : Str) (t : Tok) (b z TI TO i1 i2 : Addr) (i : Nat) (h : Heap) : Prop := IsZip h z TI TO .none ∧ IsTupOf2 h TI (.ref i1) (.ref i2) ∧ (∃ a1 a2, IsTupOf2 h TO a1 a2) ∧ h.IsStrIter i1 (strIterType x) x t i ∧ h.IsListIter i2 b i
def iZipM (K : PySem.W.Frag) (ta : TA) : TI := fun σ H R => ta σ H fun vs H1 => ∃ x b ys, vs = [.str x, .ref b] ∧ SqL K H1 b ys ∧ R (Itzm K x b) H1
end Qt
/-! enumerate of a list or a tuple. -/
namespace Qt
open PySem PySem.Spec PyProof.Rows L2 Evl
/-- enumerate of what begins so, from 0 -/
theorem meets_enum0 {v : Value} {o : Obj} {Hh : Heap → Prop} (B : Begins v o Hh) :
    Meets (Builtin.«enumerate.__new__» ⟨[.type "enumerate", v], []⟩) (fun _ R s => Hh s.heap ∧
      R (.ok (.ret (.ref (s.heap.push o).objs.size))) { s with heap := (s.heap.push o).push { cls := .type "enumerate", data := .fields #[.none, .bool false, .ref s.heap.objs.size, rawInt 0, .none, .none] } }) :=
  .of_wp fun prog w A R s h => by
    obtain ⟨hp, g, d, tk, os⟩ := s
    obtain ⟨h1, h⟩ := h
    have hsub := sub_enumerate
    have go : ∀ {A' : Around} {E Q : Value → Shared → Prop}, Q (.ref hp.objs.size) ⟨hp.push o, g, d, tk, os⟩ → wpAny (model prog w) A' (pyIter v) Q E ⟨hp, g, d, tk, os⟩ :=
      fun q => B.iter prog w _ _ ⟨hp, g, d, tk, os⟩ _ h1 q
    wp_walk using go
    refine wpAny_stack_any fun st => wpAny_pure ?_
    split
    · rename_i cc _ _ _ _ _
      cases (cc == Value.type "enumerate") <;>
      · wp_walk using go
        exact ⟨_, rfl, h⟩
    · wp_walk using go
      exact ⟨_, rfl, h⟩
section
variable {prog : Program} {w : World} {A : Around} {E : Value → Shared → Prop} {s : Shared}
theorem call_enum0 {v : Value} {o : Obj} {Hh : Heap → Prop} {Q : Value → Shared → Prop} (B : Begins v o Hh) (h1 : Hh s.heap)
    (h : ∀ h', IsEnum h' (s.heap.objs.size + 1) s.heap.objs.size 0 .none → h'.get? s.heap.objs.size = some o → (∀ b o, s.heap.get? b = some o → h'.get? b = some o) → Q (.ref (s.heap.objs.size + 1)) { s with heap := h' }) :
    wpAny (model prog w) A (call (.type "enumerate") [v]) Q E s := by
  refine callType_new F.called_enumerate (by decide) (F.typeCall_enumerate_1 _) (F.newCall_enumerate_1 _) (fun obj => F.args_object_init_2 obj _) F.entry_enumerate_new (meets_enum0 B) ⟨h1, ?_⟩
  have hz : (s.heap.push o).objs.size = s.heap.objs.size + 1 := Heap.size_push ..
  show _ ∧ _
  rw [hz]
  have he : IsEnum ((s.heap.push o).push { cls := .type "enumerate", data := .fields #[.none, .bool false, .ref s.heap.objs.size, rawInt 0, .none, .none] }) (s.heap.objs.size + 1) s.heap.objs.size 0 .none := by
    have z := Heap.get?_push_size (s.heap.push o) (o := { cls := .type "enumerate", data := .fields #[.none, .bool false, .ref s.heap.objs.size, rawInt 0, .none, .none] }) rfl
    rw [hz] at z
    exact z
  exact ⟨⟨_, he, rfl⟩, h _ he (Heap.get?_push_of_some _ (Heap.get?_push_size _ B.free)) fun b o x => Heap.get?_push_of_some _ (Heap.get?_push_of_some _ x)⟩
end
/-- the items of a tuple with their numbers, in new pairs -/
def Itet (K : PySem.W.Frag) (a : Addr) : It := ⟨fun i H => ∃ (xs : List V) (x : V), SqT K H a xs ∧ xs[i]? = some x,
  fun i H v H' => ∃ (T : Addr) (x : V), v = .ref T ∧ H T = none ∧ H' = upd H T (.tup [.int (i : Nat), x]) ∧ ∀ xs, SqT K H a xs → xs[i]? = some x, fun i H => ∃ xs : List V, SqT K H a xs ∧ xs.length = i⟩
def AtEnumT (a e it : Addr) (i : Nat) (h : Heap) : Prop := (∃ old, IsEnum h e it ((i : Nat) : Int) old) ∧ h.IsTupleIter it a i
def iEnumA (K : PySem.W.Frag) (ta : TA) : TI := fun σ H R => ta σ H fun vs H1 => ∃ a xs, vs = [.ref a] ∧ ((SqL K H1 a xs ∧ R (Ite K a) H1) ∨ (SqT K H1 a xs ∧ R (Itet K a) H1))
/-- a list or a tuple of these -/
def SqA (K : PySem.W.Frag) (H : Hp) (a : Addr) (xs : List V) : Prop := H a = some (.lst xs) ∨ H a = some (.tup xs)
end Qt
/-! Calls of what an expression gives; errors with one field. -/
namespace Qt
open PySem PySem.Spec PyProof.Rows L2 Evl
section
variable {X : Cx} {fe e : Expr} {es : List Expr} {pos : Pos} {tf : TE} {t : TA} {CX : CXT}
/-- fs[i](..): the value is one of some defs -/
def tCallE (tf : TE) (Cd : Addr → Sp → Prop) (E : L2.St → XK) (t : TA) : TE := fun σ H Q => tf σ H fun v H1 => ∃ f sp, v = .ref f ∧ Cd f sp ∧ t σ H1 fun vs H2 => sp vs H2 Q (E σ)
theorem pe_callES {Cd : Addr → Sp → Prop} {E : L2.St → XK} {j : Nat} (hr : Room j X.A) (hf : PE X fe tf) (hC : ∀ f sp, Cd f sp → PySem.W.keepIn X.K (.ref f) = true ∧ ∃ k fd ps, k ≤ j ∧ FnOk X.prog X.w X.K X.mg X.base CX k f fd ps sp ∧ Binds X.K fd ps []) (hx : ∀ σ, PassesAt CX X σ (E σ)) (ha : PA X (e :: es) t)
    (he : starEach (e :: es) X.env = (false, eval e X.env) :: starEach es X.env := by rfl) (hpl : (backTo pos (starEach es X.env)).any (·.1) = false := by rfl)
    (hc : eval (.Call fe (e :: es) [] pos) X.env = (do callWith pos (← eval fe X.env) [] (backTo pos (starEach (e :: es) X.env)) (backToKw pos (keywordEach [] X.env))) := by rfl) : PE X (.Call fe (e :: es) [] pos) (tCallE tf Cd E t) := by
  refine ⟨fun pins s σ H Q I h => ?_⟩
  refine Call_ (he := hc) (thn (hf.run pins s σ H _ I h) fun u s1 hh => ?_)
  obtain ⟨v, H1, I1, r1, f, sp, rfl, hd, q⟩ := hh
  obtain rfl : u = Value.ref f := r1
  obtain ⟨hk, k, fd, ps, hkj, F, hb⟩ := hC f sp hd
  refine PySem.W.callWith_K (h₀ := X.base) I1.ok.mod.kin hk (thn (ha.run pos pins s1 σ H1 _ I1 q) fun us s2 hh2 => ?_) he hpl
  obtain ⟨vs, H2, I2, r, q2⟩ := hh2
  exact ⟨I2.kIn, run_fnS F (hr.mono hkj) hb (hx σ) I2 r q2⟩
end
/-- an __init__ that keeps its one argument -/
def spInitF (K : PySem.W.Frag) (fn : Str) (C : Addr) : Sp := fun vs H Q _ => ∃ a v, vs = [.ref a, v] ∧ H a = some (exo a C none) ∧
  ∀ d H2, Ex H H2 → H2 d = none → d ≠ a → Q .non (upd (upd H2 d (exd d [(fn, v)])) a (exo a C (some d)))
end Qt
/-! A range kept in a name; a written dict with ints as keys. -/
namespace Qt
open PySem PySem.Spec PyProof.Rows L2 Evl
section
variable {X : Cx} {tg : Expr}
def iRngV (te : TE) : TI := fun σ H R => te σ H fun x H1 => ∃ (a : Addr) (lo hi : Int), x = .ref a ∧ H1 a = some (.rng lo hi) ∧ -(2 ^ 62) ≤ lo ∧ lo < 2 ^ 62 ∧ -(2 ^ 62) ≤ hi ∧ hi < 2 ^ 62 ∧ R (Itr lo (hi - lo).toNat) H1
end
/-- keys that are ints -/
def KeysInt : List DictEntry → Prop
  | [] => True
  | e :: r => (∃ k t, e.key = .int k t ∧ e.hash = hashInt k) ∧ KeysInt r
theorem KeysInt.all : ∀ {l : List DictEntry}, KeysInt l → ∀ e ∈ l, ∃ k t, e.key = .int k t ∧ e.hash = hashInt k
  | _ :: _, ⟨h, _⟩, _, .head _ => h
  | _ :: _, ⟨_, r⟩, _, .tail _ m => r.all _ m
def KDctI (K : PySem.W.Frag) (p : Addr) (i : Int) (v : V) : Prop := ∃ es n u, K.lookup p = some ⟨.type "dict", none, .dict es n, #[]⟩ ∧ KeysInt es.toList ∧ findBy Value.isInt es i = some u ∧ RelV v u
def rIxDI (K : PySem.W.Frag) : R2 := fun x y H Q => ∃ p i v, x = .ref p ∧ y = .int i ∧ KDctI K p i v ∧ Q v H
section
variable {X : Cx}
theorem ix_kdictI : IxR X (rIxDI X.K) := by
  intro value slice pins s σ H x y v u Q I rx ry h hs
  obtain ⟨p, i, r, rfl, rfl, ⟨es, n, u0, hl, hk, e, ru⟩, q⟩ := h
  obtain rfl : v = Value.ref p := rx
  obtain ⟨t, rfl⟩ := ry
  have hm : s.heap.MapOf (intKind X.prog X.w) p (fun k => findBy Value.isInt es k) := ⟨_, es, n, I.kIn _ _ hl, ⟨rfl, rfl, rfl⟩, rfl, fun e he => by
    obtain ⟨k, t, e1, e2⟩ := hk.all e (Array.mem_toList_iff.mpr he)
    exact ⟨k, by rw [e1]; show Value.isInt k (.int k t) = true; simp [Value.isInt], e2⟩, fun _ => rfl⟩
  exact tail_any hm.typeIs slot_dict_getitem.lookup (wpAny_getItem_of (show (intKind X.prog X.w).is i (.int i t) = true from by show Value.isInt i (.int i t) = true; simp [Value.isInt]) hm e ⟨r, H, I.tok _, ru, q⟩) hs
end
end Qt
/-! Lists of pairs; long lists. -/
namespace Qt
open PySem PySem.Spec PyProof.Rows L2 Evl
section
variable {K : PySem.W.Frag} {σ : L2.St} {H : Hp} {ta te tl : TE} {D : Ends}
theorem s_appUB {l : Addr} {xs ys : List V} (hl : H l = some (.lst xs)) (ha : Ev ta σ H (.ref l)) (h : EvU te σ H ys) (hz : xs.length < sizeLine) (k : ∀ p H1, H p = none → Ex H H1 → H1 p = some (.tup ys) → D.nx σ (upd H1 l (.lst (xs ++ [.ref p])))) :
    tDrop (tBM K "list" rAppend ta (tCons te tNil)) D σ H := ha H (Ex.refl H) _ fun H1 e1 =>
  ⟨Or.inl ⟨rfl, xs, sq_of (e1 l _ hl)⟩, h H1 e1 _ fun p H2 hp e2 h2 => ⟨l, xs, .ref p, rfl, rfl, e2 l _ (e1 l _ hl), hz, k p H2 (fresh_back e1 hp) (e1.trans e2) h2⟩⟩
/-- the first of each pair of a list, made anew -/
theorem el_lcP {a : Addr} {xs : List V} {j k : Nat} {vs : List Nat} (f g v : Nat → V) (h : Ev tl σ H (.ref a)) (hx : SqL K H a xs) (hp : ∀ i x, xs[i]? = some x → ∃ t, x = .ref t ∧ SqT K H t [f i, g i]) (hz : xs.length < sizeLine)
    (hw : ∀ a b, wipe (((wipe σ vs).set j (some a)).set k (some b)) vs = wipe σ vs)
    (he : ∀ (i : Nat) H1, Ex H H1 → i < xs.length → Ev te (((wipe σ vs).set j (some (f i))).set k (some (g i))) H1 (v i)) :
    EvL (tLc (iList K tl) (gTup K 2 (gCons (gName j) (gCons (gName k) gNil))) tYes te vs) σ H ((List.range xs.length).map v) := fun H0 e Q q => h H0 e _ fun H1 e1 => ⟨a, rfl, ⟨xs, ex_l (e.trans e1) hx⟩, fun Dl hD => by
  refine lc_it (walk_list (xs := xs)) (fun i H' => Ex H1 H' ∧ H' Dl = some (.lst ((List.range i).map v))) ⟨Ex.new hD, upd_same⟩ (fun _ _ _ p => ex_l p.1 (ex_l (e.trans e1) hx)) (fun i z H2 H' hi p y' => ?_) (fun H' p => ?_)
  · obtain ⟨rfl, hy⟩ := y'
    obtain ⟨p2, p3⟩ := p
    obtain ⟨t, rfl, ht⟩ := hp i z hy
    refine ⟨t, _, rfl, ex_t p2 (ex_t (e.trans e1) ht), rfl, _, _, rfl, _, _, rfl, rfl, hw _ _, ?_⟩
    refine yes_if ?_
    refine he i H' ((e.trans e1).trans p2) hi _ (Ex.refl _) _ fun H4 e4 => ⟨_, e4 _ _ p3, by rw [List.length_map, List.length_range]; omega, Ex.mut (p2.trans e4) hD, ?_⟩
    rw [upd_same, List.range_succ, List.map_append]
    rfl
  · exact q Dl H' (fresh_back e1 hD) (e1.trans p.1) p.2⟩
end
theorem putK_new {κ : Type} [DecidableEq κ] {kvs : List (κ × V)} {k : κ} {v : V} (h : valV kvs k = none) : putK kvs k v = kvs ++ [(k, v)] := by
  unfold putK
  rw [valV_any, h]
  rfl
end Qt
namespace Qt
open PySem PySem.Spec PyProof.Rows L2 Evl
/-- an own class whose instances have these fields -/
structure OwnC (K : PySem.W.Frag) (mg : Str → Option Value) (x : Str) (C f : Addr) (zs : List Str) : Prop where
  m : mg x = some (.ref C)
  cl : Cls K C
  mks : Mk K C f
  na : ∀ z ∈ zs, NoAttr K C z
structure OwnAt (K : PySem.W.Frag) (x : Str) (C f : Addr) (zs : List Str) : Prop where
  m : PySem.W.nsIn K mainGlobals x = some (some (.ref C))
  pg : PySem.W.plainGet K C Str.empty = true
  hd : PySem.W.hasDictIn K C = true
  po : PySem.W.plainOver K C = true
  sa : PySem.W.findIn K (.ref C) "__setattr__" = some (some (.builtin "object.__setattr__"))
  mks : PySem.W.makesIn K C = true
  it : PySem.W.findIn K (.ref C) "__init__" = some (some (.ref f))
  fn : PySem.W.isFn K (.ref f) = true
  kp : PySem.W.keepIn K (.ref C) = true
  na : ∀ z ∈ zs, PySem.W.findIn K (.ref C) z = some none
theorem OwnAt.own {K : PySem.W.Frag} {h : Heap} {mg : Str → Option Value} {x : Str} {C f : Addr} {zs : List Str} (X : K.In h) (G : h.Ns mainGlobals mg) (A : OwnAt K x C f zs) : OwnC K mg x C f zs :=
  ⟨PySem.W.mg_of X G A.m, ⟨A.pg, A.hd, A.po, A.sa⟩, ⟨A.mks, A.it, A.fn, A.kp⟩, A.na⟩
/-- a def of a class stands in the written part -/
def FnAt (K : PySem.W.Frag) (f : Addr) (n q : Str) (st : Stmt) : Prop := ∃ (oc : Value) (od : Option Addr) (kV dc pm : Value) (an : Option Addr) (cd ct : Value) (sl : Array (Option Value)),
  K.lookup f = some ⟨oc, od, .func (PySem.W.fnOf n q (defArgs st) (defBody st) (defScope st) .none kV dc pm an cd ct), sl⟩ ∧ PySem.W.codeIn K cd q = true ∧ PySem.W.keepIn K (.ref f) = true
theorem FnAt.mk {K : PySem.W.Frag} {f : Addr} {n q : Str} {st : Stmt} {oc : Value} {od : Option Addr} {kV dc pm : Value} {an : Option Addr} {cd ct : Value} {sl : Array (Option Value)}
    (l : K.lookup f = some ⟨oc, od, .func (PySem.W.fnOf n q (defArgs st) (defBody st) (defScope st) .none kV dc pm an cd ct), sl⟩) (c : PySem.W.codeIn K cd q = true) (k : PySem.W.keepIn K (.ref f) = true) : FnAt K f n q st := ⟨_, _, _, _, _, _, _, _, _, l, c, k⟩
theorem FnAt.fn {K : PySem.W.Frag} {f : Addr} {n q : Str} {st : Stmt} {ps : List Str} (D : FnAt K f n q st)
    (hb : ∀ (kV doc pm : Value) (an : Option Addr) (cdv ct : Value) (us : List Value), us.length = ps.length → bindArgs (PySem.W.fnOf n q (defArgs st) (defBody st) (defScope st) .none kV doc pm an cdv ct) ⟨us, []⟩ = pure (ps.zip us)) : ∃ fd, Fun K n q st f fd ∧ Binds K fd ps [] := by
  obtain ⟨oc, od, kV, dc, pm, an, cd, ct, sl, l, c, k⟩ := D
  have F := fun_mk (st := st) l c k
  exact ⟨_, F, F.binds hb⟩
def MethAt (K : PySem.W.Frag) (C : Addr) (n q : Str) (st : Stmt) : Prop := ∃ g, PySem.W.findIn K (.ref C) n = some (some (.ref g)) ∧ PySem.W.isFn K (.ref g) = true ∧ FnAt K g n q st
theorem MethAt.mk {K : PySem.W.Frag} {C g : Addr} {n q : Str} {st : Stmt} {oc : Value} {od : Option Addr} {kV dc pm : Value} {an : Option Addr} {cd ct : Value} {sl : Array (Option Value)} (a : PySem.W.findIn K (.ref C) n = some (some (.ref g))) (i : PySem.W.isFn K (.ref g) = true)
    (l : K.lookup g = some ⟨oc, od, .func (PySem.W.fnOf n q (defArgs st) (defBody st) (defScope st) .none kV dc pm an cd ct), sl⟩) (c : PySem.W.codeIn K cd q = true) (k : PySem.W.keepIn K (.ref g) = true) : MethAt K C n q st := ⟨g, a, i, .mk l c k⟩
def MethC (K : PySem.W.Frag) (C : Addr) (n q : Str) (st : Stmt) (ps : List Str) : Prop := ∃ g fd, Meth K C n g ∧ Fun K n q st g fd ∧ Binds K fd ps []
theorem MethAt.meth {K : PySem.W.Frag} {C : Addr} {n q : Str} {st : Stmt} {ps : List Str} (D : MethAt K C n q st)
    (hb : ∀ (kV doc pm : Value) (an : Option Addr) (cdv ct : Value) (us : List Value), us.length = ps.length → bindArgs (PySem.W.fnOf n q (defArgs st) (defBody st) (defScope st) .none kV doc pm an cdv ct) ⟨us, []⟩ = pure (ps.zip us)) : MethC K C n q st ps := by
  obtain ⟨g, a, i, oc, od, kV, dc, pm, an, cd, ct, sl, l, c, k⟩ := D
  have F := fun_mk (st := st) l c k
  exact ⟨g, _, ⟨a, i, k⟩, F, F.binds hb⟩
theorem KeysInt.cons {e : DictEntry} {r : List DictEntry} {k : Int} {t : Tok} (h1 : e.key = .int k t) (h2 : e.hash = hashInt k) (h : KeysInt r) : KeysInt (e :: r) := ⟨⟨k, t, h1, h2⟩, h⟩
theorem KeysInt.nil : KeysInt [] := trivial
theorem find_int (es : Array DictEntry) (i : Int) : findBy Value.isInt es i = (es.toList.find? fun d => Value.isInt i d.key).map (·.val) := by
  obtain ⟨l⟩ := es
  unfold findBy
  rw [List.find?_toArray]
theorem KDctI.mk {K : PySem.W.Frag} {p : Addr} {i : Int} {v : V} {es : Array DictEntry} {n : Nat} {u : Value} (h1 : K.lookup p = some ⟨.type "dict", none, .dict es n, #[]⟩) (h2 : KeysInt es.toList) (h3 : (es.toList.find? fun d => Value.isInt i d.key).map (·.val) = some u) (h4 : RelV v u) : KDctI K p i v :=
  ⟨es, n, u, h1, h2, by rw [find_int]; exact h3, h4⟩
/-- a written dict of ints -/
def TabI (K : PySem.W.Frag) (p : Addr) (l : List (Int × Int)) : Prop := ∀ kv ∈ l, KDctI K p kv.1 (.int kv.2)
end Qt
/-! max(d.values(), default=a number). -/
namespace Qt
open PySem PySem.Spec PyProof.Rows L2 Evl
theorem max_name : (toString "max" ++ toString ".loop" : String) = "max.loop" := by decide
section
variable {P : Program} {w : World} {dv : Value} {A : Around} {E : Value → Shared → Prop} {s : Shared}
theorem max_argsE (a d : Value) : argsOk "max" ⟨[a], kwE d⟩ := by unfold argsOk; kernel_rfl
section
variable {R : Result → Shared → Prop} {I S : Addr} {fp wr : List Addr} {n : Nat} {Pv : Nat → Value → Prop} {St : Nat → Heap → Prop}
theorem maxE_loop (W : Walks P w A.in1 I fp wr n Pv St) (bt : Nat → Nat → Bool) (hcmp : CmpOf P w A.in1 .Gt Pv bt) (hSf : S ∉ fp) :
    ∀ (k j : Nat) (s : Shared) (v : Value) (c : Nat), n - (j + 1) = k → j + 1 ≤ n → St (j + 1) s.heap → Pv (argBest bt j) v → s.heap.get? S = some (bestO #[v, v] c) →
    (∀ u h' tk, Pv (argBest bt (n - 1)) u → (∀ b o, b ∉ wr → b ≠ S → s.heap.get? b = some o → h'.get? b = some o) → R (.ok (.ret u)) { s with heap := h', toks := tk }) →
    codeAny (model P w) A (.builtin "max.loop" ⟨[.ref I, .none, .ref S], kwE dv⟩) R s := by
  have out : S ∉ wr := fun h => hSf (W.sub _ h)
  intro k
  induction k with
  | zero =>
    intro j s v c hk hj hst hP hS hR
    have hn : j + 1 = n := by omega
    refine codeAny_builtin F.entry_max_loop ?_
    rw [Around.under_plainId F.plain_max_loop _]
    show wpAny _ A.in1 (seqItems? (.ref S) >>= _) _ _ s
    refine wpAny_bind (wpAny_seqItems hS rfl ?_)
    show wpAny _ A.in1 (tryCatch (pyNext (.ref I)) _ >>= _) _ _ s
    refine wpAny_bind (wpAny_tryCatch (W.done s _ _ (hn ▸ hst) fun h' tk keep => ?_))
    have hS' := keep S _ out hS
    show wpAny _ A.in1 (updateSeq S (fun _ => #[]) >>= _) _ _ _
    refine wpAny_bind (wpAny_updateSeq hS' rfl (wpAny_bind (wpAny_letGo (wpAny_pure (hR v _ tk (by rw [← hn]; exact hP) fun b o b1 b2 e => ?_)))))
    exact (Heap.get?_update_other _ _ (Ne.symm b2)).trans (keep b o b1 e)
  | succ k ih =>
    intro j s v c hk hj hst hP hS hR
    have lt : j + 1 < n := by omega
    refine codeAny_builtin F.entry_max_loop ?_
    rw [Around.under_plainId F.plain_max_loop _]
    show wpAny _ A.in1 (seqItems? (.ref S) >>= _) _ _ s
    refine wpAny_bind (wpAny_seqItems hS rfl ?_)
    show wpAny _ A.in1 (tryCatch (pyNext (.ref I)) _ >>= _) _ _ s
    refine wpAny_bind (wpAny_tryCatch (W.item (j + 1) s _ _ lt hst fun u h' tk hu hst' keep => ?_))
    have hS' := keep S _ out hS
    show wpAny _ A.in1 (tryCatch (holding [u, u] (richCompare .Gt u v >>= _)) _ >>= _) _ _ _
    refine wpAny_bind (wpAny_tryCatch (wpAny_holding (wpAny_bind (hcmp (j + 1) (argBest bt j) u v _ _ _ hu hP (wpAny_bind (wpAny_holding (wpAny_truthy_bool (wpAny_bind (wpAny_letGo (wpAny_pure ?_))))))))))
    cases hb : bt (j + 1) (argBest bt j) with
    | true =>
      simp only [if_true]
      refine wpAny_bind (wpAny_updateSeq hS' rfl (wpAny_bind (wpAny_letGo ?_)))
      rw [max_name]
      refine wpAny_pure ⟨plainId_quiet F.plain_max_loop _, ih (j + 1) _ u _ (by omega) lt (W.frame _ _ _ hst' fun b hbf o e => ?_) (by simp only [argBest, hb, if_true]; exact hu) (Heap.get?_update_self _ hS' rfl) fun u' h2 tk2 hu' keep2 => ?_⟩
      · exact (Heap.get?_update_other _ _ (fun h : S = b => hSf (by rw [h]; exact hbf))).trans e
      · exact hR u' h2 tk2 hu' fun b o b1 b2 e => keep2 b o b1 b2 ((Heap.get?_update_other _ _ (Ne.symm b2)).trans (keep b o b1 e))
    | false =>
      simp only [Bool.false_eq_true, if_false]
      refine wpAny_bind (wpAny_letGo ?_)
      rw [max_name]
      exact wpAny_pure ⟨plainId_quiet F.plain_max_loop _, ih (j + 1) _ v c (by omega) lt hst' (by simp only [argBest, hb, Bool.false_eq_true, if_false]; exact hP) hS' fun u' h2 tk2 hu' keep2 => hR u' h2 tk2 hu' fun b o b1 b2 e => keep2 b o b1 b2 (keep b o b1 e)⟩
theorem maxE_first (W : Walks P w A.in1 I fp wr n Pv St) (bt : Nat → Nat → Bool) (hcmp : CmpOf P w A.in1 .Gt Pv bt) (hSf : S ∉ fp) {s : Shared} {c : Nat} (hst : St 0 s.heap) (hS : s.heap.get? S = some (bestO #[] c))
    (h0 : n = 0 → ∀ h' tk, (∀ b o, b ∉ wr → b ≠ S → s.heap.get? b = some o → h'.get? b = some o) → R (.ok (.ret dv)) { s with heap := h', toks := tk })
    (h1 : 0 < n → ∀ u h' tk, Pv (argBest bt (n - 1)) u → (∀ b o, b ∉ wr → b ≠ S → s.heap.get? b = some o → h'.get? b = some o) → R (.ok (.ret u)) { s with heap := h', toks := tk }) :
    codeAny (model P w) A (.builtin "max.loop" ⟨[.ref I, .none, .ref S], kwE dv⟩) R s := by
  have out : S ∉ wr := fun h => hSf (W.sub _ h)
  refine codeAny_builtin F.entry_max_loop ?_
  rw [Around.under_plainId F.plain_max_loop _]
  show wpAny _ A.in1 (seqItems? (.ref S) >>= _) _ _ s
  refine wpAny_bind (wpAny_seqItems hS rfl ?_)
  show wpAny _ A.in1 (tryCatch (pyNext (.ref I)) _ >>= _) _ _ s
  by_cases hn : n = 0
  · refine wpAny_bind (wpAny_tryCatch (W.done s _ _ (hn ▸ hst) fun h' tk keep => ?_))
    refine wpAny_bind (wpAny_rule ?_)
    exact wpAny_pure (h0 hn _ tk fun b o b1 b2 e => keep b o b1 e)
  · refine wpAny_bind (wpAny_tryCatch (W.item 0 s _ _ (by omega) hst fun u h' tk hu hst' keep => ?_))
    have hS' := keep S _ out hS
    show wpAny _ A.in1 (updateSeq S (fun _ => #[u, u]) >>= _) _ _ _
    refine wpAny_bind (wpAny_updateSeq hS' rfl ?_)
    rw [max_name]
    refine wpAny_pure ⟨plainId_quiet F.plain_max_loop _, maxE_loop W bt hcmp hSf _ 0 _ u _ rfl (by omega) (W.frame _ _ _ hst' fun b hbf o e => ?_) hu (Heap.get?_update_self _ hS' rfl) fun u' h2 tk2 hu' keep2 => ?_⟩
    · exact (Heap.get?_update_other _ _ (fun h : S = b => hSf (by rw [h]; exact hbf))).trans e
    · exact h1 (by omega) u' h2 tk2 hu' fun b o b1 b2 e => keep2 b o b1 b2 ((Heap.get?_update_other _ _ (Ne.symm b2)).trans (keep b o b1 e))
end
theorem maxE_vals {v d : Addr} {kvs : List (Key × Value)} {ep : Nat} (val : Nat → Int) (hv : ∀ (i : Nat) (k : Key) (u : Value), kvs[i]? = some (k, u) → ∃ t, u = Value.int (val i) t) {Q : Value → Shared → Prop} (hh : A.handled = none) (hl : s.heap.IsValuesView v d) (hm : s.heap.DictAt (mixKind P w) d kvs ep)
    (h0 : kvs.length = 0 → ∀ h' tk, (∀ b o, s.heap.get? b = some o → h'.get? b = some o) → Q dv { s with heap := h', toks := tk })
    (h1 : 0 < kvs.length → ∀ t h' tk, (∀ b o, s.heap.get? b = some o → h'.get? b = some o) → Q (.int (val (argBest (fun i j => decide (val i > val j)) (kvs.length - 1))) t) { s with heap := h', toks := tk }) :
    wpAny (model P w) A (call (.builtin "max") [.ref v] (kwE dv)) Q E s := by
  have hdl : d < s.heap.objs.size := by
    obtain ⟨o, es, ho, _⟩ := id hm
    exact Heap.lt_size ho
  refine kmk_tree F.kind_max F.plain_max F.entry_max (max_argsE _ _) ?_
  show wpAny _ A.in1 (Builtin.Builtins.bindParams "max" ["key", "default"] 0 ⟨[], kwE dv⟩ >>= _) _ _ s
  refine wpAny_bind (wpAny_of_eq (show Builtin.Builtins.bindParams "max" ["key", "default"] 0 ⟨[], kwE dv⟩ = pure [none, some dv] from rfl) ?_)
  refine wpAny_bind (wpAny_pure (wpAny_bind (wpAny_pyIter_values hl hm (wpAny_bind (wpAny_newList ?_ (Nat.zero_le _))))))
  rw [max_name]
  let ob : Obj := { cls := .type "dict_valueiterator", data := .fields #[.ref d, .int 0 0, .int kvs.length 0, .int ep 0] }
  have hz : (s.heap.push ob).objs.size = s.heap.objs.size + 1 := Heap.size_push ..
  have hdI : d ≠ s.heap.objs.size := Nat.ne_of_lt hdl
  have kept : ∀ {h' : Heap}, (∀ b o, b ∉ [s.heap.objs.size] → b ≠ (s.heap.push ob).objs.size → ((s.heap.push ob).push (seqObj "list" #[] 0)).get? b = some o → h'.get? b = some o) → ∀ b o, s.heap.get? b = some o → h'.get? b = some o := by
    intro h' k b o e
    have hb := Heap.lt_size e
    refine k b o (by rw [List.mem_singleton]; exact Nat.ne_of_lt hb) (by rw [hz]; exact Nat.ne_of_lt (Nat.lt_succ_of_lt hb)) (Heap.get?_push_of_some _ (Heap.get?_push_of_some _ e))
  refine wpAny_pure ⟨plainId_quiet F.plain_max_loop _, maxE_first (Walks.dictValues (knd := mixKind P w) (A := A.in1) (by simp [hh]) s.heap.objs.size d hdI kvs ep) (fun i j => decide (val i > val j)) (CmpOf.ints_gt val fun i u hu => ?_) (fun z => ?_) ⟨⟨_, Heap.get?_push_of_some _ (Heap.get?_push_size _ rfl), rfl, rfl⟩, ?_⟩ (Heap.get?_push_size _ rfl) (fun hn h' tk k => ?_) fun hn u h' tk hu k => ?_⟩
  · obtain ⟨k, hk⟩ := hu
    exact hv i k u hk
  · rcases List.mem_cons.mp z with z | z
    · rw [hz] at z
      exact absurd z (Nat.ne_of_gt (Nat.lt_succ_self _))
    · rw [hz] at z
      exact absurd (List.mem_singleton.mp z) (Nat.ne_of_gt (Nat.lt_succ_of_lt hdl))
  · exact (hm.push _).push _
  · exact h0 hn h' tk (kept k)
  · obtain ⟨k2, hk2⟩ := hu
    obtain ⟨t, rfl⟩ := hv _ _ _ hk2
    exact h1 hn t h' tk (kept k)
end
theorem paired_get {α β : Type} {F : α → β → Prop} : ∀ {l₁ : List α} {l₂ : List β}, Paired F l₁ l₂ → ∀ {i : Nat} {a : α}, l₁[i]? = some a → ∃ b, l₂[i]? = some b ∧ F a b
  | _, _, .nil, _, _, h => by cases h
  | _, _, .cons h r, 0, _, e => ⟨_, rfl, by
    obtain rfl := Option.some.inj e
    exact h⟩
  | _, _, .cons _ r, i + 1, _, e => paired_get (i := i) r e
/-- what d.values() gives -/
def ValV (v d : Addr) : HO := .ext fun h => h.IsValuesView v d
def tValV (td : TE) : TE := fun σ H Q => td σ H fun x H1 => ∃ (d : Addr) (kvs : List (Key × V)), x = .ref d ∧ H1 d = some (.dK kvs) ∧ ∀ v, H1 v = none → Q (.ref v) (upd H1 v (ValV v d))
def rMaxVD : List V → List V → Hp → VK → Prop := fun vs zs H Q => ∃ (v d : Addr) (kvs : List (Key × V)) (ns : List Int) (z0 : Int), vs = [.ref v] ∧ zs = [.int z0] ∧ H v = some (ValV v d) ∧ H d = some (.dK kvs) ∧ kvs.map (·.2) = ns.map V.int ∧
  (ns = [] → Q (.int z0) H) ∧ ∀ m, m ∈ ns → (∀ y, y ∈ ns → y ≤ m) → Q (.int m) H
section
variable {X : Cx} {e : Expr} {td : TE} {apos cpos : Pos}
theorem pe_valuesV (he : PE X e td) (hbase : attributeBase e "values" X.env (eval e X.env) = eval e X.env := by rfl) (hline : (apos.endLine == cpos.line) = true := by rfl) : PE X (.Call (.Attribute e "values" apos) [] [] cpos) (tValV td) := by
  refine ⟨fun pins s σ H Q I h => ?_⟩
  refine wpAny_Call_method (T := "dict") (id := "dict.values") hbase rfl hline F.plainAttrs_dict F.slot_dict_values F.type_dict_values (thn (he.run pins s σ H _ I h) fun u s1 ⟨x, H1, I1, rx, d, kvs, ex, hd, q⟩ => ?_)
  subst ex
  obtain rfl : u = Value.ref d := rx
  obtain ⟨_, hs, vs, _, hm⟩ := dk_of I1.hok hd
  refine ⟨hm.typeIs, hm.mapOf.noDict, ?_⟩
  show wpAny _ _ (callWith cpos (.builtin "dict.values") [.ref d] [] []) _ X.xe s1
  refine method_meetsIn F.slot_dict_values F.entry_dict_values rfl (PySem.evalArgs_none ⟨rfl, hm.typeIs, F.args_dict_values_1 _, _, meets_dict_values (mixKind X.prog X.w) d hs, ⟨vs, hm⟩, ?_⟩)
  refine ⟨.ref s1.heap.objs.size, upd H1 s1.heap.objs.size (ValV s1.heap.objs.size d), I1.laid (t' := s1.toks) (fun b o e => Heap.get?_push_of_some _ e) (Nat.le_refl _) ?_, rfl, q _ (I1.hok.fresh (Nat.le_refl _))⟩
  exact ⟨⟨_, Heap.get?_push_size _ rfl, rfl, rfl⟩, ⟨_, Heap.get?_push_size _ rfl⟩, fun h1 h2 p k => let ⟨o, ho, r⟩ := p; ⟨o, k _ ho, r⟩⟩
theorem cr_maxVD (hc : X.calm = true) : CallRK X (.builtin "max") [PySem.Str.ofString "default"] rMaxVD := by
  intro pins s σ H xs zs us ws Q I r rz h
  obtain ⟨v, d, kvs, ns, z0, rfl, rfl, hv, hd, hn, q0, q1⟩ := h
  rw [Vals.ref1 r]
  obtain ⟨w1, rfl, e1⟩ := vals1 rz
  obtain ⟨t1, rfl⟩ := e1
  obtain ⟨_, _, vs, kv, o, es, ep, hm⟩ := dk_of I.hok hd
  have hl : kvs.length = vs.length := Paired.length kv
  have hnl : kvs.length = ns.length := by
    have z := congrArg List.length hn
    rw [List.length_map, List.length_map] at z
    exact z
  have hview := (I.hok v _ hv).1
  refine maxE_vals (ep := ep) (kvs := vs) (fun i => ns.getD i 0) (fun i k u hk => ?_) (I.ok.hd hc) hview ⟨o, es, hm⟩ (fun h0 h' tk kk => ?_) fun h0 t h' tk kk => ?_
  · have hi := (List.getElem?_eq_some_iff.mp hk).1
    have hi2 : i < kvs.length := by omega
    obtain ⟨y, hy, ry⟩ := paired_get kv (i := i) (List.getElem?_eq_getElem hi2)
    rw [hk] at hy
    cases hy
    have hx : (kvs.map (·.2))[i]? = some (kvs[i]).2 := by rw [List.getElem?_map, List.getElem?_eq_getElem hi2]; rfl
    rw [hn, List.getElem?_map, List.getElem?_eq_getElem (by omega)] at hx
    have hx := Option.some.inj hx
    have r2 := ry.2
    rw [← hx] at r2
    obtain ⟨t, ht⟩ := r2
    have ht : u = Value.int _ t := ht
    refine ⟨t, ?_⟩
    rw [ht, List.getD_eq_getElem?_getD, List.getElem?_eq_getElem (by omega)]
    rfl
  · exact ⟨.int z0, H, I.kept (t' := tk) kk, ⟨_, rfl⟩, q0 (List.eq_nil_of_length_eq_zero (by omega))⟩
  · obtain ⟨b1, b2⟩ := argBest_gt (fun i => ns.getD i 0) (vs.length - 1)
    refine ⟨.int _, H, I.kept (t' := tk) kk, ⟨t, rfl⟩, q1 _ ?_ fun z hz => ?_⟩
    · have hi : argBest (fun i j => decide (ns.getD i 0 > ns.getD j 0)) (vs.length - 1) < ns.length := by omega
      rw [List.getD_eq_getElem?_getD, List.getElem?_eq_getElem hi]
      exact List.getElem_mem hi
    · obtain ⟨j, hj, rfl⟩ := List.getElem_of_mem hz
      have := b2 j (by omega)
      rw [List.getD_eq_getElem?_getD (i := j), List.getElem?_eq_getElem hj] at this
      exact this
end
end Qt
/-! A dict comprehension over a new list, with a test, all keys different. -/
namespace Qt
open PySem PySem.Spec PyProof.Rows L2 Evl
def EvD (te : TE) (σ : L2.St) (H : Hp) (kvs : List (Key × V)) : Prop := ∀ H1, Ex H H1 → ∀ Q : VK, (∀ p H2, H1 p = none → Ex H1 H2 → H2 p = some (.dK kvs) → Q (.ref p) H2) → te σ H1 Q
theorem valV_none {κ : Type} [DecidableEq κ] {kvs : List (κ × V)} {k : κ} (h : ∀ p ∈ kvs, p.1 ≠ k) : valV kvs k = none := by
  unfold valV
  have z : (kvs.find? fun kv => decide (kv.1 = k)) = none := List.find?_eq_none.mpr fun p hp => by simpa using h p hp
  rw [z]
  rfl
theorem el_dcL {K : PySem.W.Frag} {σ : L2.St} {H : Hp} {tl tk tv : TE} {tt : TT} {j : Nat} {vs : List Nat} {xs : List V} (f : Nat → Bool) (kf : Nat → Key) (vf : Nat → V) (h : EvL tl σ H xs) (hz : xs.length ≤ 40000) (hw : ∀ x, wipe ((wipe σ vs).set j (some x)) vs = wipe σ vs)
    (hn : ∀ a b, a < b → b < xs.length → kf a ≠ kf b) (ht : ∀ (i : Nat) (x : V) H1, Ex H H1 → xs[i]? = some x → EvT tt ((wipe σ vs).set j (some x)) H1 (f i))
    (hk : ∀ (i : Nat) (x : V) H1, Ex H H1 → xs[i]? = some x → f i = true → Ev tk ((wipe σ vs).set j (some x)) H1 (kV (kf i))) (hv : ∀ (i : Nat) (x : V) H1, Ex H H1 → xs[i]? = some x → f i = true → Ev tv ((wipe σ vs).set j (some x)) H1 (vf i)) :
    EvD (tDc (iList K tl) (gName j) tt tk tv vs) σ H (((List.range xs.length).filter f).map fun i => (kf i, vf i)) := fun H0 e Q q => h H0 e _ fun a H1 na e1 hx => ⟨a, rfl, ⟨xs, sq_of hx⟩, fun D hD => by
  have ll : ∀ i, (((List.range i).filter f).map fun i => (kf i, vf i)).length ≤ i := fun i => by
    have z := List.length_filter_le f (List.range i)
    rw [List.length_map]
    rw [List.length_range] at z
    exact z
  refine ⟨fun i m H' => m = xs.length - i ∧ i ≤ xs.length ∧ Ex H1 H' ∧ H' D = some (.dK (((List.range i).filter f).map fun i => (kf i, vf i))), ⟨xs.length, by simp, Nat.zero_le _, Ex.new hD, upd_same⟩, ?_⟩
  rintro i m H' ⟨rfl, hi, eH, hd⟩
  by_cases hlt : i < xs.length
  · refine .inr ⟨⟨xs, xs[i], sq_of (eH _ _ hx), by simp [hlt]⟩, _, fun H'' p' => ⟨xs.length - (i + 1), by omega, rfl, hlt, p'⟩, fun x H'' y => ?_⟩
    obtain ⟨rfl, y⟩ := y
    have hxi := y xs (sq_of (eH _ _ hx))
    have e0 := (e.trans e1).trans eH
    refine ⟨hw _, ht i x _ e0 hxi _ (Ex.refl _) _ fun H3 e3 => ?_⟩
    cases hf : f i with
    | true =>
      refine iteT (hk i x _ (e0.trans e3) hxi hf _ (Ex.refl _) _ fun H4 e4 => hv i x _ ((e0.trans e3).trans e4) hxi hf _ (Ex.refl _) _ fun H5 e5 => ?_)
      have e35 := (e3.trans e4).trans e5
      refine ⟨_, kf i, rfl, e35 _ _ hd, Nat.lt_of_le_of_lt (ll i) (by rw [sizeLine_eq]; omega), Ex.mut (eH.trans e35) hD, ?_⟩
      rw [upd_same, putK_new (valV_none fun p hp => ?_), List.range_succ, List.filter_append, List.map_append, List.filter_cons_of_pos hf]
      · rfl
      · obtain ⟨b, hb, rfl⟩ := List.mem_map.mp hp
        exact hn b i (List.mem_range.mp (List.mem_filter.mp hb).1) hlt
    | false =>
      refine iteF ?_
      refine ⟨eH.trans e3, ?_⟩
      rw [List.range_succ, List.filter_append, List.filter_cons_of_neg (by rw [hf]; simp), List.filter_nil, List.append_nil]
      exact e3 _ _ hd
  · obtain rfl : i = xs.length := by omega
    exact .inl ⟨⟨xs, sq_of (eH _ _ hx), Nat.le_refl _⟩, q D H' (fresh_back e1 hD) (e1.trans eH) hd⟩⟩
end Qt
/-! Dict comprehensions over any walk; over numbered items; over a dict's keys. A def with a default. x |= y. -/
namespace Qt
open PySem PySem.Spec PyProof.Rows L2 Evl
theorem ip_or {X : Cx} : PIp X .BitOr (ipI fun i j => Builtin.bitOr i j) := by
  intro pins s σ H x y v u Q I r1 r2 h
  obtain ⟨i, j, e1, e2, q⟩ := h
  subst e1; subst e2
  obtain ⟨t, rfl⟩ := r1
  obtain ⟨t', rfl⟩ := r2
  exact ior_int ⟨.int _, H, I.tok _, ⟨_, rfl⟩, q⟩
section
variable {J : It} {n : Nat} {G : Hp → Prop} {Y : Nat → Hp → V → Hp → Prop}
theorem dc_it (w : Walk J n G Y) {g : TG} {tt : TT} {tk tv : TE} {vs : List Nat} {σ : L2.St} {H1 : Hp} {D : Addr} {Qd : Hp → Prop} (Pv : Nat → Hp → Prop) (h0 : Pv 0 (upd H1 D (.dK []))) (hG : ∀ i H, i ≤ n → Pv i H → G H)
    (hs : ∀ i x H H', i < n → Pv i H → Y i H x H' → g x (wipe σ vs) H' fun σ2 H2 => wipe σ2 vs = wipe σ vs ∧ tt σ2 H2 fun b H3 =>
      if b = true then tk σ2 H3 fun y H4 => tv σ2 H4 fun z H5 => ∃ kvs k, y = kV k ∧ H5 D = some (.dK kvs) ∧ kvs.length < sizeLine ∧ Pv (i + 1) (upd H5 D (.dK (putK kvs k z))) else Pv (i + 1) H3) (hd : ∀ H, Pv n H → Qd H) :
    ∃ W : Nat → Nat → Hp → Prop, (∃ m, W 0 m (upd H1 D (.dK []))) ∧ ∀ i m H, W i m H →
      (J.stop i H ∧ Qd H) ∨ (J.go i H ∧ ∃ Nx : Hp → Prop, (∀ H', Nx H' → ∃ m', m' < m ∧ W (i + 1) m' H') ∧ ∀ x H', J.yld i H x H' → g x (wipe σ vs) H' fun σ2 H2 => wipe σ2 vs = wipe σ vs ∧ tt σ2 H2 fun b H3 =>
        if b = true then tk σ2 H3 fun y H4 => tv σ2 H4 fun z H5 => ∃ kvs k, y = kV k ∧ H5 D = some (.dK kvs) ∧ kvs.length < sizeLine ∧ Nx (upd H5 D (.dK (putK kvs k z))) else Nx H3) := by
  refine ⟨fun i m H => m = n - i ∧ i ≤ n ∧ Pv i H, ⟨n, by simp, Nat.zero_le _, h0⟩, ?_⟩
  rintro i m H ⟨rfl, hi, p⟩
  have q := hG i H hi p
  by_cases hlt : i < n
  · exact .inr ⟨w.goes i H hlt q, Pv (i + 1), fun H' p' => ⟨n - (i + 1), by omega, rfl, hlt, p'⟩, fun x H' y => hs i x H H' hlt p (w.yields i H x H' hlt q y)⟩
  · obtain rfl : i = n := by omega
    exact .inl ⟨w.stops H q, hd H p⟩
end
/-- n entries with the keys kf, each value as R tells -/
def DRel (R : Nat → V → Hp → Prop) (kf : Nat → Key) (n : Nat) (kvs : List (Key × V)) (H : Hp) : Prop := kvs.length = n ∧ ∀ i, i < n → ∃ v, kvs[i]? = some (kf i, v) ∧ R i v H
theorem DRel.nil {R : Nat → V → Hp → Prop} {kf : Nat → Key} {H : Hp} : DRel R kf 0 [] H := ⟨rfl, fun _ h => absurd h (Nat.not_lt_zero _)⟩
theorem DRel.snoc {R : Nat → V → Hp → Prop} {kf : Nat → Key} {n : Nat} {kvs : List (Key × V)} {H H1 : Hp} {v : V} (h : DRel R kf n kvs H) (m : ∀ i v, R i v H → R i v H1) (hv : R n v H1) : DRel R kf (n + 1) (kvs ++ [(kf n, v)]) H1 :=
  ⟨by rw [List.length_append, h.1]; rfl, fun i hi => by
    rcases Nat.lt_or_ge i n with z | z
    · obtain ⟨u, a, b⟩ := h.2 i z
      exact ⟨u, by rw [List.getElem?_append_left (by rw [h.1]; exact z)]; exact a, m i u b⟩
    · obtain rfl : i = n := by omega
      exact ⟨v, by rw [List.getElem?_append_right (by rw [h.1]; exact Nat.le_refl _), h.1, Nat.sub_self]; rfl, hv⟩⟩
theorem DRel.new {R : Nat → V → Hp → Prop} {kf : Nat → Key} {n : Nat} {kvs : List (Key × V)} {H : Hp} {k : Key} (h : DRel R kf n kvs H) (hn : ∀ a, a < n → kf a ≠ k) : valV kvs k = none := valV_none fun p hp => by
  obtain ⟨i, hi, e⟩ := List.getElem_of_mem hp
  obtain ⟨v, a, _⟩ := h.2 i (by rw [← h.1]; exact hi)
  rw [List.getElem?_eq_getElem hi, e] at a
  rw [Option.some.inj a]
  exact hn i (by rw [← h.1]; exact hi)
theorem valV_app {κ : Type} [DecidableEq κ] {k : κ} : ∀ {a b : List (κ × V)}, valV a k = none → valV (a ++ b) k = valV b k
  | [], _, _ => rfl
  | p :: r, b, h => by
    by_cases e : p.1 = k
    · rw [valV_pos e] at h
      cases h
    · rw [valV_neg e] at h
      rw [List.cons_append, valV_neg e]
      exact valV_app h
theorem DRel.at {R : Nat → V → Hp → Prop} {kf : Nat → Key} : ∀ {n : Nat} {kvs : List (Key × V)} {H : Hp}, DRel R kf n kvs H → (∀ a b, a < b → b < n → kf a ≠ kf b) → ∀ i, i < n → ∃ v, valV kvs (kf i) = some v ∧ R i v H := fun {n kvs H} h hn i hi => by
  obtain ⟨v, a, b⟩ := h.2 i hi
  refine ⟨v, ?_, b⟩
  have hi' : i < kvs.length := by rw [h.1]; exact hi
  have e := (List.take_append_drop i kvs).symm
  rw [e, valV_app, List.drop_eq_getElem_cons hi', valV_pos]
  · rw [List.getElem?_eq_getElem hi'] at a
    rw [Option.some.inj a]
  · rw [List.getElem?_eq_getElem hi'] at a
    rw [Option.some.inj a]
  · refine valV_none fun p hp => ?_
    obtain ⟨j, hj, ej⟩ := List.getElem_of_mem hp
    rw [List.length_take] at hj
    obtain ⟨u, c, _⟩ := h.2 j (by omega)
    rw [List.getElem_take] at ej
    rw [List.getElem?_eq_getElem (by omega), ej] at c
    rw [Option.some.inj c]
    exact hn j i (by omega) hi
/-- {kf: v for j, k in enumerate(a new list)}, keys all different -/
theorem el_dcE {K : PySem.W.Frag} {σ : L2.St} {H : Hp} {te tk tv : TE} {j k : Nat} {vs : List Nat} {xs : List V} (kf : Nat → Key) (vf : Nat → V) (h : EvL te σ H xs) (hz : xs.length ≤ 40000)
    (hw : ∀ a b, wipe (((wipe σ vs).set j (some a)).set k (some b)) vs = wipe σ vs) (hn : ∀ a b, a < b → b < xs.length → kf a ≠ kf b)
    (hk : ∀ (i : Nat) y H1, Ex H H1 → xs[i]? = some y → Ev tk (((wipe σ vs).set j (some (.int (i : Int)))).set k (some y)) H1 (kV (kf i)))
    (hv : ∀ (i : Nat) y H1, Ex H H1 → xs[i]? = some y → Ev tv (((wipe σ vs).set j (some (.int (i : Int)))).set k (some y)) H1 (vf i)) :
    EvD (tDc (iEnum K (tCons te tNil)) (gTup K 2 (gCons (gName j) (gCons (gName k) gNil))) tYes tk tv vs) σ H ((List.range xs.length).map fun i => (kf i, vf i)) := fun H0 e Q q => h H0 e _ fun a H1 na e1 hx => ⟨a, xs, rfl, sq_of hx, fun D hD => by
  refine dc_it (walk_enum (K := K) (a := a) (xs := xs)) (fun i H' => Ex H1 H' ∧ H' D = some (.dK ((List.range i).map fun i => (kf i, vf i)))) ⟨Ex.new hD, upd_same⟩ (fun _ _ _ p => sq_of (p.1 _ _ hx)) (fun i z H2 H' hi p y' => ?_) (fun H' p => q D H' (fresh_back e1 hD) (e1.trans p.1) p.2)
  obtain ⟨T, n, y, rfl, nT, rfl, hn', hy⟩ := y'
  obtain rfl : V.int (i : Nat) = n := Option.some.inj hn'
  obtain ⟨p1, p2⟩ := p
  have nTD : D ≠ T := ne_of_none p2 nT
  have eT := Ex.new (o := .tup [.int (i : Nat), y]) nT
  refine ⟨T, _, rfl, st_of upd_same, rfl, _, _, rfl, _, _, rfl, rfl, hw _ _, ?_⟩
  refine yes_if ?_
  have e0 := ((e.trans e1).trans p1).trans eT
  refine hk i y _ e0 hy _ (Ex.refl _) _ fun H4 e4 => hv i y _ (e0.trans e4) hy _ (Ex.refl _) _ fun H5 e5 => ?_
  have e45 := e4.trans e5
  refine ⟨_, kf i, rfl, e45 _ _ (eT _ _ p2), by rw [List.length_map, List.length_range, sizeLine_eq]; omega, Ex.mut ((p1.trans eT).trans e45) hD, ?_⟩
  rw [upd_same, putK_new (valV_none fun p hp => ?_), List.range_succ, List.map_append]
  · rfl
  · obtain ⟨b, hb, rfl⟩ := List.mem_map.mp hp
    exact hn b i (List.mem_range.mp hb) hi⟩
/-- back from a frozen dict -/
theorem ex_thaw {H H' : Hp} {d : Addr} {od : Obj} {u : HO} (h : H d = some u) (e : Ex (upd H d (.frz od u)) H') : Ex H (upd H' d u) := fun a o ha => by
  by_cases z : a = d
  · rw [z, h] at ha
    rw [z, upd_same]
    exact ha
  · rw [upd_ne z]
    exact e a o (by rw [upd_ne z]; exact ha)
/-- {j: v for j in a dict}, the values as R tells -/
theorem el_dcK {K : PySem.W.Frag} {σ : L2.St} {H : Hp} {td tv : TE} {d : Addr} {j : Nat} {vs : List Nat} {kvs : List (Key × V)} (R : Nat → V → Hp → Prop) (kf : Nat → Key) (h : ∀ H1 od, Ev td σ (upd H1 d (.frz od (.dK kvs))) (.ref d)) (hd : H d = some (.dK kvs)) (hz : kvs.length ≤ 40000)
    (hkf : ∀ i, i < kvs.length → ∃ v, kvs[i]? = some (kf i, v)) (hn : ∀ a b, a < b → b < kvs.length → kf a ≠ kf b)
    (hw : ∀ x, wipe ((wipe σ vs).set j (some x)) vs = wipe σ vs) (hj : ∀ x, ((wipe σ vs).set j (some x))[j]? = some (some x))
    (hR : ∀ i v H1 H2 x, (∃ kv od, H1 x = some (.dK kv) ∨ H1 x = some (.frz od (.dK kv))) → (∀ a o, a ≠ x → H1 a = some o → H2 a = some o) → R i v H1 → R i v H2)
    (hv : ∀ (i : Nat) v H1, kvs[i]? = some (kf i, v) → (∃ H0 od, Ex H H0 ∧ Ex (upd H0 d (.frz od (.dK kvs))) H1 ∧ H1 d = some (.frz od (.dK kvs))) → ∀ Q : VK, (∀ v H2, Ex H1 H2 → R i v H2 → Q v H2) → tv ((wipe σ vs).set j (some (kV (kf i)))) H1 Q)
    {H0 : Hp} (e : Ex H H0) {Q : VK} (q : ∀ p kvs' H2, H0 p = none → Ex H0 H2 → H2 p = some (.dK kvs') → DRel R kf kvs.length kvs' H2 → Q (.ref p) H2) :
    tLockE (tDc (iKeys td) (gName j) tYes (tVar j) tv vs) σ H0 Q := by
  have hd0 := e _ _ hd
  refine ⟨d, .dK kvs, hd0, trivial, fun od => ?_⟩
  refine h H0 od _ (Ex.refl _) _ fun H1 e1 => ?_
  have hz1 : H1 d = some (.frz od (.dK kvs)) := e1 _ _ upd_same
  refine ⟨d, od, rfl, .inl ⟨kvs, hz1, fun D nD => ?_⟩⟩
  have Dd : D ≠ d := fun z => by rw [z, hz1] at nD; cases nD
  have nD0 : H0 D = none := by
    have := fresh_back e1 nD
    rwa [upd_ne Dd] at this
  refine dc_it (walk_keys (d := d) (o := od) (kvs := kvs)) (fun i H' => Ex H1 H' ∧ ∃ kv', H' D = some (.dK kv') ∧ DRel R kf i kv' H') ⟨Ex.new nD, [], upd_same, DRel.nil⟩ (fun i H' _ p => p.1 _ _ hz1) (fun i x G H' hi p y => ?_) (fun H' p => ?_)
  · obtain ⟨rfl, kk, v, hkv, rfl⟩ := y
    obtain ⟨p1, kv', p2, p3⟩ := p
    obtain ⟨v', hkf'⟩ := hkf i hi
    have ek : kk = kf i := by
      rw [hkv] at hkf'
      exact congrArg Prod.fst (Option.some.inj hkf')
    subst ek
    refine ⟨hw _, yes_if ?_⟩
    refine ⟨_, hj _, hv i v _ hkv ⟨H0, od, e, e1.trans p1, p1 _ _ hz1⟩ _ fun u H3 e3 hu => ?_⟩
    refine ⟨kv', kf i, rfl, e3 _ _ p2, by rw [p3.1, sizeLine_eq]; omega, Ex.mut (p1.trans e3) nD, kv' ++ [(kf i, u)], ?_, ?_⟩
    · rw [upd_same, putK_new (p3.new fun a ha => hn a i ha hi)]
    · exact p3.snoc (fun i v r => hR i v _ _ D ⟨kv', od, .inl (e3 _ _ p2)⟩ (fun a o hx hh => by rw [upd_ne hx]; exact hh) (hR i v _ _ D ⟨kv', od, .inl p2⟩ (fun a o _ hh => e3 _ _ hh) r)) (hR i u _ _ D ⟨kv', od, .inl (e3 _ _ p2)⟩ (fun a o hx hh => by rw [upd_ne hx]; exact hh) hu)
  · obtain ⟨p1, kv', p2, p3⟩ := p
    refine ⟨p1 _ _ hz1, q D kv' _ nD0 (ex_thaw hd0 (e1.trans p1)) (by rw [upd_ne Dd]; exact p2) ⟨p3.1, fun i hi => ?_⟩⟩
    obtain ⟨v, a, b⟩ := p3.2 i hi
    exact ⟨v, a, hR i v _ _ d ⟨kvs, od, .inr (p1 _ _ hz1)⟩ (fun x o hx hh => by rw [upd_ne hx]; exact hh) b⟩
/-! ### a def with one default -/
section
variable (P : Program) (w : World) (K : PySem.W.Frag) (mg : Str → Option Value) (base : Heap)
def EntD (x : Str) (st : Stmt) (ps : List Str) (d : Int) : Prop := ∃ (f : Addr) (fd : FuncData) (ds : List Value), FunD K x x (defArgs st) (defBody st) (defScope st) [.int d] [] f fd ∧ mg x = some (.ref f) ∧ Binds K fd ps [] ∧ Vals [V.int d] ds ∧ Binds K fd ps ds
def CalD (CX : CXT) (k : Nat) (x : Str) (ps : List Str) (sp : Sp) (d : Int) : Prop := ∃ (f : Addr) (fd : FuncData) (ds : List Value), FnOk P w K mg base CX k f fd ps sp ∧ mg x = some (.ref f) ∧ PySem.W.keepIn K (.ref f) = true ∧ Binds K fd ps [] ∧ Vals [V.int d] ds ∧ Binds K fd ps ds
end
theorem FunD.ok0 {P : Program} {w : World} {K : PySem.W.Frag} {mg : Str → Option Value} {base : Heap} {x qual : Str} {params : Arguments} {body : List Stmt} {scope : Scope} {dvs : List V} {kws : List (Str × V)} {f : Addr} {fd : FuncData} {N ps : List Str} {k : Nat} {sp : Sp}
    (F : FunD K x qual params body scope dvs kws f fd) (S : FnScope N ps scope) (len : ∀ vs H Q E, sp vs H Q E → vs.length = ps.length)
    (hbody : ∀ (cdv : Value) (A : Around) (outer : List Env) (s : Shared) (H : Hp) (vs : List V) (Q : VK) (E : XK), Room k (A.deeper (envOfC qual scope s.heap.objs.size f cdv)) → sp vs H Q E →
      ∃ t, PSs (cxOf CX0 P w K mg base N qual scope f cdv A outer s H E).nox body t ∧ t { nx := fun _ H' => Q .non H', rt := Q } (start N vs) H) : FnOk P w K mg base CX0 (k + 1) f fd ps sp :=
  F.ok S len fun cdv A outer s H vs Q E hr h => by
    obtain ⟨t, h1, h2⟩ := hbody cdv A outer s H vs Q E hr h
    exact ⟨t, h1.nox, h2⟩
def DefAtD (K : PySem.W.Frag) (x : Str) (st : Stmt) (d : Int) : Prop := ∃ (f : Addr) (oc : Value) (od : Option Addr) (kV dc pm : Value) (an : Option Addr) (cd ct : Value) (sl : Array (Option Value)) (T : Addr) (o : Obj) (its : List Value) (n : Nat),
  PySem.W.nsIn K mainGlobals x = some (some (.ref f)) ∧ K.lookup f = some ⟨oc, od, .func (PySem.W.fnOf x x (defArgs st) (defBody st) (defScope st) (.ref T) kV dc pm an cd ct), sl⟩ ∧ PySem.W.codeIn K cd x = true ∧ PySem.W.keepIn K (.ref f) = true ∧ K.lookup T = some o ∧ o.data = .seq its.toArray n ∧ Vals [V.int d] its
theorem DefAtD.mk {K : PySem.W.Frag} {x : Str} {st : Stmt} {d : Int} {f : Addr} {oc : Value} {od : Option Addr} {kV dc pm : Value} {an : Option Addr} {cd ct : Value} {sl : Array (Option Value)} {T : Addr} {c2 : Value} {d2 : Option Addr} {u : Value} {n : Nat} {s2 : Array (Option Value)}
    (a : PySem.W.nsIn K mainGlobals x = some (some (.ref f))) (l : K.lookup f = some ⟨oc, od, .func (PySem.W.fnOf x x (defArgs st) (defBody st) (defScope st) (.ref T) kV dc pm an cd ct), sl⟩) (c : PySem.W.codeIn K cd x = true) (k : PySem.W.keepIn K (.ref f) = true)
    (l2 : K.lookup T = some ⟨c2, d2, .seq #[u] n, s2⟩) (hv : RelV (.int d) u) : DefAtD K x st d := ⟨f, oc, od, kV, dc, pm, an, cd, ct, sl, T, _, [u], n, a, l, c, k, l2, rfl, .cons hv .nil⟩
theorem DefAtD.ent {K : PySem.W.Frag} {h : Heap} {mg : Str → Option Value} {x : Str} {st : Stmt} {d : Int} {ps : List Str} {n : Nat} (D : DefAtD K x st d) (X : K.In h) (G : h.Ns mainGlobals mg) (hn : n + 1 = ps.length)
    (h1 : ∀ (T : Addr) (kV doc pm : Value) (an : Option Addr) (cdv ct : Value) (us its : List Value), us.length = n + 1 → its.length = 1 → ∃ k, bindArgs (PySem.W.fnOf x x (defArgs st) (defBody st) (defScope st) (.ref T) kV doc pm an cdv ct) ⟨us, []⟩ = seqItems? (.ref T) >>= k ∧ k (some its.toArray) = pure (ps.zip (us ++ its.drop 1)))
    (h0 : ∀ (T : Addr) (kV doc pm : Value) (an : Option Addr) (cdv ct : Value) (us its : List Value), us.length = n → its.length = 1 → ∃ k, bindArgs (PySem.W.fnOf x x (defArgs st) (defBody st) (defScope st) (.ref T) kV doc pm an cdv ct) ⟨us, []⟩ = seqItems? (.ref T) >>= k ∧ k (some its.toArray) = pure (ps.zip (us ++ its.drop 0))) : EntD K mg x st ps d := by
  obtain ⟨f, oc, od, kV, dc, pm, an, cd, ct, sl, T, o, its, m, a, l, c, k, l2, e2, v2⟩ := D
  have F : FunD K x x (defArgs st) (defBody st) (defScope st) [.int d] [] f (PySem.W.fnOf x x (defArgs st) (defBody st) (defScope st) (.ref T) kV dc pm an cd ct) :=
    ⟨⟨oc, od, _, kV, dc, pm, an, cd, ct, sl, rfl, l, c, .inr ⟨by simp, T, o, its, m, rfl, l2, e2, v2⟩, .inl rfl⟩, k⟩
  obtain ⟨d1, r1, b1⟩ := F.binds1 (ps := ps) (n + 1) 1 (by simp) (by simpa using hn) h1
  obtain ⟨d0, r0, b0⟩ := F.binds1 (ps := ps) n 0 (by simp) (by simpa using hn) h0
  cases r1
  exact ⟨f, _, d0, F, PySem.W.mg_of X G a, b1, r0, b0⟩
/-! ### what evaluates to something that R tells; two names unpacked -/
def EvR (te : TE) (σ : L2.St) (H : Hp) (R : V → Hp → Prop) : Prop := ∀ H1, Ex H H1 → ∀ Q : VK, (∀ v H2, Ex H1 H2 → R v H2 → Q v H2) → te σ H1 Q
section
variable {K : PySem.W.Frag} {σ : L2.St} {H : Hp} {td ty tx te : TE} {D : Ends} {tz : TS}
theorem ev_dget {a : Addr} {kvs : List (Key × V)} {k : Key} {v : V} (h : Ev td σ H (.ref a)) (hk : Ev ty σ H (kV k)) (ha : H a = some (.dK kvs)) (hv : valV kvs k = some v) : Ev (tDGet td ty) σ H v := fun H1 e Q q =>
  h H1 e _ fun H2 e2 => hk H2 (e.trans e2) _ fun H3 e3 => ⟨a, v, rfl, by rw [← hv]; exact DGet.k (((e.trans e2).trans e3) _ _ ha), q H3 (e2.trans e3)⟩
theorem er_dget2 {a : Addr} {kvs : List (Key × V)} {k : Key} {ds : List V} (h : Ev td σ H (.ref a)) (hk : Ev ty σ H (kV k)) (hx : EvU tx σ H ds) (ha : H a = some (.dK kvs)) :
    EvR (tDGet2 td ty tx) σ H (fun v H2 => ∃ t, H2 t = some (.tup ds) ∧ v = (valV kvs k).getD (.ref t)) := fun H1 e Q q =>
  h H1 e _ fun H2 e2 => ⟨a, rfl, .inl ⟨kvs, .inl ((e.trans e2) _ _ ha)⟩, hk H2 (e.trans e2) _ fun H3 e3 => hx H3 ((e.trans e2).trans e3) _ fun t H4 nt e4 ht => ⟨_, DGet.k ((((e.trans e2).trans e3).trans e4) _ _ ha), q _ H4 ((e2.trans e3).trans e4) ⟨t, ht, rfl⟩⟩⟩
theorem er_of {v : V} {R : V → Hp → Prop} (h : Ev te σ H v) (hr : ∀ H1, Ex H H1 → R v H1) : EvR te σ H R := fun H1 e Q q => h H1 e Q fun H2 e2 => q v H2 e2 (hr H2 (e.trans e2))
theorem s_unp2 {i j : Nat} {R : V → Hp → Prop} {x y : V} (h : EvR te σ H R) (hr : ∀ v H1, Ex H H1 → R v H1 → ∃ t, v = .ref t ∧ SqT K H1 t [x, y]) (k : ∀ H1, Ex H H1 → D.nx ((σ.set i (some x)).set j (some y)) H1) :
    tAsg te (gTup K 2 (gCons (gName i) (gCons (gName j) gNil))) D σ H := h H (Ex.refl H) _ fun v H1 e r => by
  obtain ⟨t, rfl, ht⟩ := hr v H1 e r
  exact ⟨t, _, rfl, ht, rfl, _, _, rfl, _, _, rfl, rfl, k H1 e⟩
theorem q_unp2 {i j : Nat} {R : V → Hp → Prop} {x y : V} (h : EvR te σ H R) (hr : ∀ v H1, Ex H H1 → R v H1 → ∃ t, v = .ref t ∧ SqT K H1 t [x, y]) (k : ∀ H1, Ex H H1 → tz D ((σ.set i (some x)).set j (some y)) H1) :
    tSeq (tAsg te (gTup K 2 (gCons (gName i) (gCons (gName j) gNil)))) tz D σ H := s_unp2 (D := { D with nx := tz D }) h hr k
end
end Qt
/-! Steps by what R tells; pairs of a value and a new list. -/
namespace Qt
open PySem PySem.Spec PyProof.Rows L2 Evl
section
variable {K : PySem.W.Frag} {σ : L2.St} {H : Hp} {ta tb te : TE} {D : Ends} {tz : TS}
end
/-! ### texts within a list; a list's truth -/
section
variable {K : PySem.W.Frag} {σ : L2.St} {H : Hp} {ta tb te : TE} {D : Ends} {tz : TS}
end
end Qt
/-! Lists of tuples of flat values. -/
namespace Qt
open PySem PySem.Spec PyProof.Rows L2 Evl
/-- at p stands a list of tuples: their contents are xss -/
def LTup (H : Hp) (p : Addr) (xss : List (List V)) : Prop := ∃ ts : List Addr, H p = some (.lst (ts.map V.ref)) ∧ Paired (fun t x => H t = some (.tup x)) ts xss
theorem pr_imp {α β : Type} {R S : α → β → Prop} : ∀ {ts : List α} {ws : List β}, Paired R ts ws → (∀ t w, t ∈ ts → R t w → S t w) → Paired S ts ws
  | _, _, .nil, _ => .nil
  | _, _, .cons h r, k => .cons (k _ _ List.mem_cons_self h) (pr_imp r fun t w ht => k t w (List.mem_cons_of_mem _ ht))
def datV : V → PyData
  | .int i => .int i
  | .str z => .str z
  | .bl b => .bool b
  | _ => .none
def okV : V → Prop
  | .int _ => True
  | .str z => lowS z
  | .bl _ => True
  | .non => True
  | _ => False
theorem dp_flat {K : PySem.W.Frag} {H : Hp} {v : V} (h : okV v) : Dp K H v (datV v) := by
  cases v with
  | int i => exact .int i
  | str z => exact .str z
  | bl b => exact .bl b
  | non => exact .non
  | _ => exact h.elim
theorem dp_flats {K : PySem.W.Frag} {H : Hp} : ∀ {xs : List V}, (∀ v ∈ xs, okV v) → DpAll K H xs (xs.map datV)
  | [], _ => .nil
  | v :: r, h => .cons (dp_flat (h v List.mem_cons_self)) (dp_flats fun u hu => h u (List.mem_cons_of_mem _ hu))
def dTups (xss : List (List V)) : PyData := .list (xss.map fun x => .tuple (x.map datV))
def EvG (te : TE) (σ : L2.St) (H : Hp) (xss : List (List V)) : Prop := ∀ H1, Ex H H1 → ∀ Q : VK, (∀ p H2, H1 p = none → Ex H1 H2 → LTup H2 p xss → Q (.ref p) H2) → te σ H1 Q
section
variable {K : PySem.W.Frag} {σ : L2.St} {H : Hp} {te1 te2 til : TE} {tt : TT} {ta : TA} {D : Ends} {tz : TS}
/-- what two fors with a test give, up to the outer turn i -/
def givenF (n2 : Nat) (f : Nat → Nat → Bool) (v : Nat → Nat → List V) (i : Nat) : List (List V) := (List.range i).flatMap fun a => ((List.range n2).filter (f a)).map (v a)
/-- the promise of a list of tuples -/
def RetT (xss : List (List V)) (H : Hp) (Q : VK) : Prop := ∀ p H2, H p = none → Ex H H2 → LTup H2 p xss → Q (.ref p) H2
end
end Qt
/-! min, <, sorted of data of any depth. -/
namespace Qt
open PySem PySem.Spec PyProof.Rows L2 Evl PySem.W
section
variable {X : Cx}
/-- min(l) of alike data: the item that stands there -/
def rMinG (K : PySem.W.Frag) : List V → Hp → VK → Prop := fun xs H Q => ∃ (a : Addr) (ys : List V) (d : PyData) (ds : List PyData), xs = [.ref a] ∧ SqL K H a ys ∧ DpAll K H ys (d :: ds) ∧ AlikeAll (d :: ds) ∧ (∀ z ∈ d :: ds, z.depth ≤ 60) ∧ PyData.canLayAll0 (d :: ds) = true ∧
  ∀ (i : Nat) (y : V), ys[i]? = some y → (d :: ds)[i]? = some (minD d ds) → Q y H
/-- x < y of alike data -/
def rLtG (K : PySem.W.Frag) : R2 := fun x y H Q => ∃ d e, Dp K H x d ∧ Dp K H y e ∧ alike d e = true ∧ d ≠ .none ∧ d.depth ≤ 60 ∧ Q (.bl (dataLt d e)) H
/-- sorted(l) of alike data: the items, each beside its data -/
def rSortedG (K : PySem.W.Frag) : List V → Hp → VK → Prop := fun xs H Q => ∃ (a : Addr) (zs : List (PyData × V)), xs = [.ref a] ∧ SqL K H a (zs.map Prod.snd) ∧ DpAll K H (zs.map Prod.snd) (zs.map Prod.fst) ∧ AllAlike (zs.map Prod.fst) ∧ Sortable (zs.map Prod.fst) ∧ (∀ z ∈ zs, z.1.depth ≤ 60) ∧
  ∀ p, H p = none → Q (.ref p) (upd H p (.lst ((zs.mergeSort (dataLe false Prod.fst)).map Prod.snd)))
end
end Qt
/-! Lists of pairs, made by one for; min of them; comparing answers that both are told. -/
namespace Qt
open PySem PySem.Spec PyProof.Rows L2 Evl PySem.W
section
variable {K : PySem.W.Frag} {σ : L2.St} {H : Hp} {ta tb tl te te1 te2 : TE} {t : TT} {D : Ends} {tz : TS}
end
end Qt
/-! Counting down; min of a new list of texts. -/
namespace Qt
open PySem PySem.Spec PyProof.Rows L2 Evl PySem.W
section
variable {K : PySem.W.Frag} {σ : L2.St} {H : Hp} {te : TE} {ta : TA} {tu tz : TS} {D : Ends}
end
/-- the least of some texts, as lists of numbers -/
def minL : List (List Nat) → List Nat
  | [] => []
  | x :: xs => xs.foldl (fun a y => if y < a then y else a) x
end Qt
/-! text[::-1]; text.find(sign); text.index(sign). -/
namespace Qt
open PySem PySem.Spec PyProof.Rows L2 Evl
section
variable {X : Cx}
def revT (z : Str) : Str := ⟨z.cps.toList.reverse.toArray⟩
def tRevS (te : TE) : TE := fun σ H Q => te σ H fun x H1 => ∃ z : Str, x = .str z ∧ z.length ≤ sizeLine ∧ Q (.str (revT z)) H1
end
end Qt
/-! sorted(set(xs)) of a list of texts. -/
namespace Qt
open PySem PySem.Spec PyProof.Rows L2 Evl PySem.W
def txtOf (e : Int × Value) : Str := match e.2 with
  | .str k _ => k
  | _ => PySem.Str.empty
def OkT (P : Program) (w : World) (e : Int × Value) : Prop := ∃ k t, e.2 = Value.str k t ∧ e.1 = (PySem.strKind P w).hash k
/-- the set of texts at a: M its members; its table can be walked -/
def SetT (P : Program) (w : World) (h : Heap) (a : Addr) (M : Str → Bool) : Prop :=
  ∃ ob xs ep tb, h.get? a = some ob ∧ ob.ExactSet ∧ ob.data = .set xs ep tb ∧ (∀ x ∈ xs.toList, OkT P w x) ∧ (xs.toList.map txtOf).Nodup ∧ (∀ k, M k = true ↔ k ∈ xs.toList.map txtOf) ∧
    xs.size < scanBound ∧ tb.fits xs.size = true ∧ Ris tb.place.toList ∧ (w.params.followText "set-order" = true ∨ tb.led = true)
section
variable {P : Program} {w : World} {A : Around} {E : Value → Shared → Prop} {s : Shared} {a : Addr} {M : Str → Bool}
end
end Qt
/-! sorted(set(xs)) of a list of texts: filling, sorting, the rule. -/
namespace Qt
open PySem PySem.Spec PyProof.Rows L2 Evl PySem.W
section
variable {P : Program} {w : World} {A : Around} {E : Value → Shared → Prop} {s : Shared} {a : Addr} {M : Str → Bool}
def SetU (P : Program) (w : World) (n : Nat) (xs : List Str) (S : Addr) (h : Heap) : Prop := SetT P w h S (fun k => decide (k ∈ xs)) ∧ ∀ ob es ep tb, h.get? S = some ob → ob.data = .set es ep tb → es.size ≤ n
def strOf (v : Value) : Str := match v with
  | .str k _ => k
  | _ => PySem.Str.empty
end
section
variable {X : Cx}
/-- sorted(set(xs)), xs texts: they in their order, each once -/
def tSortedSetS (K : PySem.W.Frag) (ta : TE) : TE := fun σ H Q => ta σ H fun x H1 => ∃ (l : Addr) (xs : List Str), x = .ref l ∧ SqL K H1 l (xs.map V.str) ∧ xs.length ≤ 4090 ∧
  ∀ ys : List Str, ys.Pairwise (fun x y => x.cps.toList < y.cps.toList) → (∀ k, k ∈ ys ↔ k ∈ xs) → ∀ p, H1 p = none → Q (.ref p) (upd H1 p (.lst (ys.map V.str)))
end
end Qt
/-! min within a block; comprehensions over very long lists. -/
namespace Qt
open PySem PySem.Spec PyProof.Rows L2 Evl
section
variable {X : Cx}
end
section
variable {K : PySem.W.Frag} {σ : L2.St} {H : Hp} {tl te : TE} {t : TT}
end
end Qt
/-! list(enumerate(xs)): a new list of new pairs. -/
namespace Qt
open PySem PySem.Spec PyProof.Rows L2 Evl
theorem enum_no_len : typeLookup (.type "enumerate") "__len__" = pure none := am_miss_of_fast (by decide +kernel)
theorem enum_no_hint : typeLookup (.type "enumerate") "__length_hint__" = pure none := am_miss_of_fast (by decide +kernel)
/-- the enumerate object at turn i -/
def EnSt (e it l S : Addr) (items : Array Value) (i : Nat) (h : Heap) : Prop := h.IsListIter it l i ∧ h.IsList l items ∧
  ((∃ old, IsEnum h e it i old) ∨ ∃ old T f oT, IsEnumHeld h e it i old T f ∧ h.get? T = some oT ∧ T ≠ e ∧ T ≠ it ∧ T ≠ S)
/-- the pairs that were made -/
structure EnAcc (N : Nat) (e it S : Addr) (items : Array Value) (ts : List Addr) (h : Heap) : Prop where
  nd : ts.Nodup
  each : ∀ (j : Nat) (T : Addr), ts[j]? = some T → N ≤ T ∧ T ≠ e ∧ T ≠ it ∧ T ≠ S ∧ ∃ t v, items[j]? = some v ∧ h.get? T = some { cls := .type "tuple", data := .seq #[.int j t, v] }
section
variable {prog : Program} {w : World} {A : Around} {s : Shared} {R : Result → Shared → Prop}
theorem extend_enum {e it l S : Addr} {items : Array Value} (hh : A.in1.handled = none) (hei : e ≠ it) (hle : l ≠ e) (hli : l ≠ it) (hSe : S ≠ e) (hSi : S ≠ it) (hSl : S ≠ l) (hn : items.size ≤ sizeLine) (res : Value) (N : Nat) (h0 : Heap) :
    ∀ (k i : Nat) (s : Shared) (ts : List Addr), items.size - i = k → i ≤ items.size → EnSt e it l S items i s.heap → ts.length = i → N ≤ s.heap.objs.size → (∃ c, s.heap.get? S = some { cls := .type "list", dict := none, data := .seq (ts.map Value.ref).toArray c, slots := #[] }) →
    EnAcc N e it S items ts s.heap → (∀ b o, b ≠ e → b ≠ it → b ≠ S → h0.get? b = some o → s.heap.get? b = some o) →
    (∀ h' tk ts', ts'.length = items.size → (∃ c', h'.get? S = some { cls := .type "list", dict := none, data := .seq (ts'.map Value.ref).toArray c', slots := #[] }) → EnAcc N e it S items ts' h' → (∀ b o, b ≠ e → b ≠ it → b ≠ S → h0.get? b = some o → h'.get? b = some o) →
      R (.ok (.ret res)) { s with heap := h', toks := tk }) →
    codeAny (model prog w) A (.builtin "list.extend.loop" ⟨[.ref S, .ref e, res], []⟩) R s := by
  intro k
  induction k with
  | zero =>
    intro i s ts hk hi st hts hN hS acc hold hR
    obtain ⟨c, hS⟩ := hS
    have hin : i = items.size := by omega
    subst hin
    refine codeAny_builtin F.entry_extend_loop ?_
    rw [Around.under_plainId F.plain_extend_loop _]
    show wpAny _ A.in1 (pyNext (.ref e) >>= _) _ _ s
    obtain ⟨hit, hl, he⟩ := st
    have hx : items[items.size]? = none := Array.getElem?_eq_none (Nat.le_refl _)
    have fin : ∀ h', Heap.ExtBut it s.heap h' → R (.ok (.ret res)) { s with heap := h' } := fun h' hk' => by
      refine hR h' s.toks ts hts ⟨c, hk' _ _ hSi hS⟩ ⟨acc.nd, fun j T hj => ?_⟩ fun b o b1 b2 b3 q => hk' _ _ b2 (hold b o b1 b2 b3 q)
      obtain ⟨a1, a2, a3, a4, t, v, a5, a6⟩ := acc.each j T hj
      exact ⟨a1, a2, a3, a4, t, v, a5, hk' _ _ a3 a6⟩
    rcases he with ⟨old, he⟩ | ⟨old, T, f, oT, he, hT, r1, r2, r3⟩
    · exact wpAny_bind (wpAny_pyNext_enum_end hh he hit hl hx fun h' hk' => wpAny_pure (fin h' hk'))
    · exact wpAny_bind (wpAny_pyNext_enum_end_held hh he hit hl hx fun h' hk' => wpAny_pure (fin h' hk'))
  | succ k ih =>
    intro i s ts hk hi st hts hN hS acc hold hR
    obtain ⟨c, hS⟩ := hS
    have hlt : i < items.size := by omega
    refine codeAny_builtin F.entry_extend_loop ?_
    rw [Around.under_plainId F.plain_extend_loop _]
    show wpAny _ A.in1 (pyNext (.ref e) >>= _) _ _ s
    obtain ⟨hit, hl, he⟩ := st
    have hx := Array.getElem?_eq_getElem hlt
    have hec : ((i + 1 : Nat) : Int) = (i : Int) + 1 := by omega
    have nit : s.heap.objs.size ≠ it := let ⟨_, x, _⟩ := hit; Nat.ne_of_gt (Heap.lt_size x)
    have nS : s.heap.objs.size ≠ S := Nat.ne_of_gt (Heap.lt_size hS)
    -- what follows a step
    have step : ∀ (h' : Heap) (ne : s.heap.objs.size ≠ e), h'.IsListIter it l (i + 1) →
        (∃ old T f oT, IsEnumHeld h' e it ((i : Int) + 1) old T f ∧ h'.get? T = some oT ∧ T ≠ e ∧ T ≠ it ∧ T ≠ S) →
        h'.get? s.heap.objs.size = some { cls := .type "tuple", data := .seq #[.int i s.toks, items[i]] } → h'.objs.size = s.heap.objs.size + 1 → (∀ b o, b ≠ e → b ≠ it → s.heap.get? b = some o → h'.get? b = some o) →
        wpAny (model prog w) A.in1 (updateSeq S (·.push (.ref s.heap.objs.size)) >>= fun _ => again (.builtin "list.extend.loop" ⟨[.ref S, .ref e, res], []⟩))
          (fun fin s' => match fin with | .done f => R (.ok f) s' | .again c' => c'.quiet = true ∧ codeAny (model prog w) A c' R s') (fun e s' => R (.error e) s') { s with heap := h', toks := s.toks + 1 } := fun h' ne a1 a2 a4 a5 a6 => by
      have hS' := a6 S _ hSe hSi hS
      refine wpAny_bind ?_
      have oth : ∀ b o, b ≠ S → h'.get? b = some o → (h'.update S (Obj.mapSeq (·.push (.ref s.heap.objs.size)))).get? b = some o := fun b o hb q => (Heap.get?_update_other _ _ (Ne.symm hb)).trans q
      refine wpAny_updateSeq hS' rfl (wpAny_pure ⟨plainId_quiet F.plain_extend_loop _, ih (i + 1) _ (ts ++ [s.heap.objs.size]) (by omega) hlt ?_ (by rw [List.length_append, hts]; rfl) ?_ ?_ ?_ (fun b o b1 b2 b3 q => oth b o b3 (a6 b o b1 b2 (hold b o b1 b2 b3 q))) fun h'' tk ts' q1 q2 q3 q4 => hR h'' tk ts' q1 q2 q3 q4⟩) (by simp only [List.size_toArray, List.length_map]; omega) (by
        show ((ts.map Value.ref).toArray.push (.ref s.heap.objs.size)).size ≤ sizeLine + 1
        rw [Array.size_push]; simp only [List.size_toArray, List.length_map]; omega)
      · obtain ⟨o, ho, r⟩ := a1
        obtain ⟨ol, hol, rl⟩ := hl
        obtain ⟨old, T, f, oT, b1, b2, b3, b4, b5⟩ := a2
        exact ⟨⟨o, oth _ _ (Ne.symm hSi) ho, r⟩, ⟨ol, oth _ _ (Ne.symm hSl) (a6 l _ hle hli hol), rl⟩, .inr ⟨old, T, f, oT, (by rw [hec]; exact oth _ _ (Ne.symm hSe) b1), oth _ _ b5 b2, b3, b4, b5⟩⟩
      · show N ≤ (h'.update S _).objs.size
        rw [Heap.size_update, a5]
        omega
      · have := Heap.get?_update_self (Obj.mapSeq (·.push (Value.ref s.heap.objs.size))) hS' rfl
        rw [List.map_append]
        exact ⟨_, by simpa [Obj.mapSeq] using this⟩
      · refine ⟨?_, fun j T hj => ?_⟩
        · rw [List.nodup_append]
          refine ⟨acc.nd, by simp, fun a ha b hb => ?_⟩
          obtain ⟨j, hj⟩ := List.getElem?_of_mem ha
          obtain ⟨_, _, _, _, _, _, _, z⟩ := acc.each j a hj
          rw [List.mem_singleton.mp hb]
          exact Nat.ne_of_lt (Heap.lt_size z)
        · by_cases hj2 : j < ts.length
          · rw [List.getElem?_append_left hj2] at hj
            obtain ⟨c1, c2, c3, c4, t, v, c5, c6⟩ := acc.each j T hj
            exact ⟨c1, c2, c3, c4, t, v, c5, oth _ _ c4 (a6 _ _ c2 c3 c6)⟩
          · rw [List.getElem?_append_right (by omega)] at hj
            have hj3 : j - ts.length = 0 := by
              rcases Nat.eq_zero_or_pos (j - ts.length) with z | z
              · exact z
              · rw [List.getElem?_eq_none (by simp; omega)] at hj; cases hj
            rw [hj3] at hj
            obtain rfl : s.heap.objs.size = T := Option.some.inj hj
            obtain rfl : j = i := by omega
            exact ⟨hN, ne, nit, nS, s.toks, items[j], hx, oth _ _ nS a4⟩
    rcases he with ⟨old, he⟩ | ⟨old, T, f, oT, he, hT, r1, r2, r3⟩
    · have ne : s.heap.objs.size ≠ e := Nat.ne_of_gt (Heap.lt_size he)
      refine wpAny_bind (wpAny_pyNext_enum_item he hit hl hx hei fun h' ho hit' hT hsz hk' => ?_)
      exact step h' ne hit' ⟨_, s.heap.objs.size, false, _, ho, hT, ne, nit, nS⟩ hT hsz hk'
    · have ne : s.heap.objs.size ≠ e := Nat.ne_of_gt (Heap.lt_size he)
      refine wpAny_bind (wpAny_pyNext_enum_item_held he hT r1 r2 hit hl hx hei fun h' ho hit' hT' hsz hk' => ?_)
      exact step h' ne hit' ⟨old, T, true, oT, ho, hk' _ _ r1 r2 hT, r1, r2, r3⟩ hT' hsz hk'
theorem list_init_enum {e it l S : Addr} {items : Array Value} (hh : A.in1.handled = none) (hei : e ≠ it) (hle : l ≠ e) (hli : l ≠ it) (hSe : S ≠ e) (hSi : S ≠ it) (hSl : S ≠ l) (hn : items.size ≤ sizeLine)
    (hst : EnSt e it l S items 0 s.heap) (hS : s.heap.get? S = some { cls := .type "list", data := .seq #[] })
    (hR : ∀ h' tk ts', ts'.length = items.size → (∃ c', h'.get? S = some { cls := .type "list", dict := none, data := .seq (ts'.map Value.ref).toArray c', slots := #[] }) → EnAcc s.heap.objs.size e it S items ts' h' → (∀ b o, b ≠ e → b ≠ it → b ≠ S → s.heap.get? b = some o → h'.get? b = some o) →
      R (.ok (.ret .none)) { s with heap := h', toks := tk }) :
    wpAny (model prog w) A.in1 (Builtin.«list.__init__» ⟨[.ref S, .ref e], []⟩)
      (fun fin s' => match fin with | .done f => R (.ok f) s' | .again c' => c'.quiet = true ∧ codeAny (model prog w) A c' R s') (fun e s' => R (.error e) s') s := by
  have hT : ∀ {h : Heap}, EnSt e it l S items 0 h → ({ s with heap := h } : Shared).TypeIs (.ref e) "enumerate" := fun {h} st => by
    obtain ⟨_, _, ⟨_, he⟩ | ⟨_, _, _, _, he, _⟩⟩ := st <;> exact ⟨_, he, rfl⟩
  have frame : ∀ {h h' : Heap}, EnSt e it l S items 0 h → (∀ b o, b ≠ S → h.get? b = some o → h'.get? b = some o) → EnSt e it l S items 0 h' := fun {h h'} st k => by
    obtain ⟨⟨o, ho, r⟩, ⟨ol, hol, rl⟩, he⟩ := st
    refine ⟨⟨o, k _ _ (Ne.symm hSi) ho, r⟩, ⟨ol, k _ _ (Ne.symm hSl) hol, rl⟩, ?_⟩
    rcases he with ⟨old, he⟩ | ⟨old, T, f, oT, b1, b2, b3, b4, b5⟩
    · exact .inl ⟨old, k _ _ (Ne.symm hSe) he⟩
    · exact .inr ⟨old, T, f, oT, k _ _ (Ne.symm hSe) b1, k _ _ b5 b2, b3, b4, b5⟩
  show wpAny _ A.in1 (do let old ← Builtin.List.listItems (.ref S); Builtin.List.listUpdate (.ref S) (fun _ => #[]); letGo old.toList.reverse; Builtin.List.listExtendWith (.ref S) (.ref e) .none) _ _ s
  refine wpAny_bind ?_
  unfold Builtin.List.listItems
  refine wpAny_bind (wpAny_seqItems hS rfl (wpAny_pure ?_))
  show wpAny _ A.in1 (updateSeq S (fun _ => #[]) >>= fun _ => letGo (#[] : Array Value).toList.reverse >>= fun _ => Builtin.List.listExtendWith (.ref S) (.ref e) .none) _ _ s
  refine wpAny_bind (wpAny_updateSeq hS rfl ?_)
  have hS₂ := Heap.get?_update_self (Obj.mapSeq (fun _ => (#[] : Array Value))) hS rfl
  have oth : ∀ b o, b ≠ S → s.heap.get? b = some o → (s.heap.update S (Obj.mapSeq (fun _ => (#[] : Array Value)))).get? b = some o :=
    fun b o hb e => (Heap.get?_update_other _ _ (Ne.symm hb)).trans e
  refine wpAny_bind (wpAny_letGo ?_)
  have st2 := frame hst oth
  have zz : (s.heap.update S (Obj.mapSeq (fun _ => (#[] : Array Value)))).objs.size = s.heap.objs.size := Heap.size_update ..
  generalize hh2 : s.heap.update S (Obj.mapSeq (fun _ => (#[] : Array Value))) = h2 at hS₂ oth st2 zz
  unfold Builtin.List.listExtendWith
  refine wpAny_bind (wpAny_typeOf (hT st2) ?_)
  have h1 : Builtin.List.listSameRef (.ref S) (.ref e) = false := by simp [Builtin.List.listSameRef, hSe]
  have h2' : (Value.type "enumerate" == Value.type "list") = false := by decide
  have h3 : (Value.type "enumerate" == Value.type "tuple") = false := by decide
  simp only [h1, h2', h3, Bool.or_false, Bool.false_eq_true, if_false]
  have itr : ∀ {Q E}, Q (.ref e) { s with heap := h2 } → wpAny (model prog w) A.in1 (pyIter (.ref e)) Q E { s with heap := h2 } := fun q => by
    obtain ⟨_, _, ⟨_, he⟩ | ⟨_, _, _, _, he, _⟩⟩ := st2
    · exact wpAny_pyIter_enum he q
    · have hT2 : ({ s with heap := h2 } : Shared).TypeIs (.ref e) "enumerate" := ⟨_, he, rfl⟩
      refine wpAny_pyIter_slot hT2 F.slot_enumerate_iter (wpAny_call_entry F.slot_enumerate_iter hT2 F.entry_enumerate_iter ?_ (F.args_enumerate_iter_1 _))
      show wpAny _ _ (ret (.ref e)) _ _ _
      exact wpAny_pure ⟨_, rfl, "enumerate", _, hT2, F.slot_enumerate_next.lookup, q⟩
  refine wpAny_bind (itr ?_)
  refine wpAny_bind (wpAny_holding ?_)
  unfold Builtin.List.listLengthHint
  refine wpAny_bind (wpAny_specialOf (hT st2) enum_no_len ?_)
  show wpAny _ A.in1 (specialOf (Value.ref e) (Str.ofString "__length_hint__") >>= _) _ _ _
  refine wpAny_bind (wpAny_specialOf (hT st2) enum_no_hint ?_)
  refine wpAny_pure ?_
  show wpAny _ A.in1 (rule "list.extend.makes-room" >>= fun _ => Builtin.List.listTouch (.ref S) >>= fun _ =>
    again (.builtin "list.extend.loop" ⟨[.ref S, .ref e, .none], []⟩)) _ _ _
  refine wpAny_bind (wpAny_rule ?_)
  refine wpAny_bind ?_
  show wpAny _ A.in1 (updateSeq S (·.push .none) >>= fun _ => updateSeq S (·.pop)) _ _ _
  refine wpAny_bind (wpAny_updateSeq hS₂ rfl ?_)
  have hS₃ := Heap.get?_update_self (Obj.mapSeq (·.push Value.none)) hS₂ rfl
  refine wpAny_updateSeq (hz := by seq_fits) hS₃ rfl ?_
  have hS₄ := Heap.get?_update_self (Obj.mapSeq (·.pop)) hS₃ rfl
  have oth4 : ∀ b o, b ≠ S → h2.get? b = some o → ((h2.update S (Obj.mapSeq (·.push Value.none))).update S (Obj.mapSeq (·.pop))).get? b = some o :=
    fun b o hb e => (Heap.get?_update_other _ _ (Ne.symm hb)).trans ((Heap.get?_update_other _ _ (Ne.symm hb)).trans e)
  refine wpAny_pure ⟨plainId_quiet F.plain_extend_loop _, extend_enum hh hei hle hli hSe hSi hSl hn .none s.heap.objs.size s.heap items.size 0 _ [] (by omega) (Nat.zero_le _) (frame st2 oth4) rfl ?_ ⟨_, hS₄⟩ ⟨List.nodup_nil, fun j T hj => by cases hj⟩
    (fun b o b1 b2 b3 q => oth4 b o b3 (oth b o b3 q)) fun h' tk ts' q1 q2 q3 q4 => hR h' tk ts' q1 q2 q3 q4⟩
  show s.heap.objs.size ≤ ((h2.update S _).update S _).objs.size
  rw [Heap.size_update, Heap.size_update, zz]
  exact Nat.le_refl _
end
section
variable {prog : Program} {w : World} {A : Around} {E : Value → Shared → Prop} {s : Shared}
theorem call_list_enum {e it l : Addr} {items : Array Value} {old : Value} {Q : Value → Shared → Prop} (hh : A.handled = none) (hei : e ≠ it) (hle : l ≠ e) (hli : l ≠ it) (hn : items.size ≤ sizeLine)
    (he : IsEnum s.heap e it 0 old) (hit : s.heap.IsListIter it l 0) (hl : s.heap.IsList l items)
    (hQ : ∀ h' tk S ts', ts'.length = items.size → s.heap.objs.size ≤ S → (∃ c', h'.get? S = some { cls := .type "list", dict := none, data := .seq (ts'.map Value.ref).toArray c', slots := #[] }) → EnAcc s.heap.objs.size e it S items ts' h' → (∀ b o, b ≠ e → b ≠ it → s.heap.get? b = some o → h'.get? b = some o) →
      Q (.ref S) { s with heap := h', toks := tk }) :
    wpAny (model prog w) A (call (.type "list") [.ref e]) Q E s := by
  have hSe : s.heap.objs.size ≠ e := Nat.ne_of_gt (Heap.lt_size he)
  have hSi : s.heap.objs.size ≠ it := by obtain ⟨o, ho, _⟩ := hit; exact Nat.ne_of_gt (Heap.lt_size ho)
  have hSl : s.heap.objs.size ≠ l := by obtain ⟨o, ho, _⟩ := hl; exact Nat.ne_of_gt (Heap.lt_size ho)
  refine callType_codes (Q₁ := fun obj s₁ => obj = .ref s.heap.objs.size ∧ s₁ = { s with heap := s.heap.push { cls := .type "list", data := .seq #[] } }) F.called_list (F.typeCall_list_1 _) F.entry_list_init
    (code_list_new _ ⟨rfl, rfl⟩) fun obj s₁ h₁ => ?_
  obtain ⟨rfl, rfl⟩ := h₁
  have hS : (s.heap.push { cls := .type "list", data := .seq #[] }).get? s.heap.objs.size = some { cls := .type "list", data := .seq #[] } := Heap.get?_push_size _ rfl
  have up : ∀ b o, s.heap.get? b = some o → (s.heap.push { cls := .type "list", data := .seq #[] }).get? b = some o := fun b o q => Heap.get?_push_of_some _ q
  refine ⟨⟨_, hS, rfl⟩, F.args_list_init_2 _ _, list_init_enum (A := A.in1) (s := { s with heap := s.heap.push { cls := .type "list", data := .seq #[] } }) hh hei hle hli hSe hSi hSl hn
    ⟨(let ⟨o, ho, r⟩ := hit; ⟨o, up _ _ ho, r⟩), (let ⟨o, ho, r⟩ := hl; ⟨o, up _ _ ho, r⟩), .inl ⟨old, up _ _ he⟩⟩ hS fun h' tk ts' q1 q2 q3 q4 => ⟨rfl, hQ h' tk _ ts' q1 (Nat.le_refl _) q2 ⟨q3.nd, fun j T hj => ?_⟩ fun b o b1 b2 q => q4 b o b1 b2 (Nat.ne_of_lt (Heap.lt_size q)) (up _ _ q)⟩⟩
  obtain ⟨c1, c2⟩ := q3.each j T hj
  refine ⟨Nat.le_trans ?_ c1, c2⟩
  show s.heap.objs.size ≤ (s.heap.push _).objs.size
  rw [Heap.size_push]
  exact Nat.le_succ _
end
/-! ### many new tuples -/
section
variable {fs ex : List Addr} {H H1 : Hp} {h h' : Heap} {a : Addr} {o : HO} {P : Program} {w : World}
theorem un_more (u : Un fs ex H H1 h h') (hp : h.objs.size ≤ a) (hn : H1 a = none) : Un fs ex H (upd H1 a o) h h' where
  keep := u.keep
  slot := u.slot
  free := fun b v q n x => by rw [upd_ne (Nat.ne_of_lt (Nat.lt_of_lt_of_le (Heap.lt_size q) hp))]; exact u.free b v q n x
  there := u.there
  tups := fun b xs q => by have z := u.tups b xs q; rw [upd_ne (ne_of_none z hn)]; exact z
  frzs := fun b v xs q => by have z := u.frzs b v xs q; rw [upd_ne (ne_of_none z hn)]; exact z
  tbls := fun b ps q => by
    obtain ⟨m, z⟩ := u.tbls b ps q
    exact ⟨m, by rw [upd_ne (ne_of_none z hn)]; exact z⟩
theorem hok_more (x : HOk P w H1 h') (hn : H1 a = none) (new : ObjOk P w (upd H1 a o) h' a o) : HOk P w (upd H1 a o) h' := fun b u e => by
  by_cases hb : b = a
  · subst hb; rw [upd_same] at e; cases e; exact new
  · rw [upd_ne hb] at e
    exact (x b u e).stay (fun c v _ q => q) (fun c q => by rw [upd_ne (ne_of_none q hn)]; exact q) fun c xs q => by rw [upd_ne (ne_of_none q hn)]; exact q
/-- tuples that the heap holds are tracked -/
theorem more_tups (x : HOk P w H h') (u : Un fs ex H H h h') (nn : ∀ t, h.objs.size ≤ t → H t = none) : ∀ (ts : List Addr) (xss : List (List V)), ts.Nodup →
    Paired (fun t x => h.objs.size ≤ t ∧ x.length ≤ sizeLine ∧ ∃ its : List Value, Vals x its ∧ IsTup h' t its.toArray) ts xss →
    ∃ H1, Ex H H1 ∧ Un fs ex H H1 h h' ∧ HOk P w H1 h' ∧ Paired (fun t x => H1 t = some (.tup x)) ts xss ∧ ∀ t, h.objs.size ≤ t → t ∉ ts → H1 t = none
  | [], _, _, .nil => ⟨H, Ex.refl H, u, x, .nil, fun t ht _ => nn t ht⟩
  | t :: ts, _ :: xss, nd, .cons (b := xs) ⟨h1, h2, h3⟩ r => by
    obtain ⟨H1, e1, u1, x1, p1, n1⟩ := more_tups x u nn ts xss (List.nodup_cons.mp nd).2 r
    have hn := n1 t h1 (List.nodup_cons.mp nd).1
    refine ⟨upd H1 t (.tup xs), e1.trans (Ex.new hn), un_more u1 h1 hn, hok_more x1 hn ⟨h2, h3⟩, .cons upd_same (pr_imp p1 fun t' x' _ q => (Ex.new hn) _ _ q), fun t' ht hm => ?_⟩
    rw [upd_ne (fun z => hm (by rw [z]; exact List.mem_cons_self))]
    exact n1 t' ht fun z => hm (List.mem_cons_of_mem _ z)
end
/-- the items with their numbers -/
def enumL (xs : List V) : List (List V) := (List.range xs.length).map fun i => [.int (i : Nat), xs.getD i .non]
theorem enumL_len (xs : List V) : (enumL xs).length = xs.length := by unfold enumL; rw [List.length_map, List.length_range]
theorem paired_of {α β : Type} {R : α → β → Prop} : ∀ {ts : List α} {ws : List β}, ts.length = ws.length → (∀ (i : Nat) t w, ts[i]? = some t → ws[i]? = some w → R t w) → Paired R ts ws
  | [], [], _, _ => .nil
  | [], _ :: _, h, _ => by cases h
  | _ :: _, [], h, _ => by cases h
  | t :: ts, w :: ws, h, k => .cons (k 0 t w rfl rfl) (paired_of (by simpa using h) fun i t w h1 h2 => k (i + 1) t w h1 h2)
def tListEnum (K : PySem.W.Frag) (ta : TE) : TE := fun σ H Q => ta σ H fun x H1 => ∃ (l : Addr) (xs : List V), x = .ref l ∧ SqL K H1 l xs ∧
  ∀ p H2, H1 p = none → Ex H1 H2 → LTup H2 p (enumL xs) → Q (.ref p) H2
section
variable {X : Cx}
theorem pe_listEnum {a : Expr} {ta : TE} {p p2 q pos : Pos} (hc : X.calm = true) (hg : Gl X "list") (hm : X.mg "list" = none) (hg2 : Gl X "enumerate") (hm2 : X.mg "enumerate" = none) (ha : PE X a ta)
    (na : starEach [a] X.env = (false, eval a X.env) :: starEach [] X.env := by rfl) : PE X (.Call (.Name "list" p) [.Call (.Name "enumerate" p2) [a] [] q] [] pos) (tListEnum X.K ta) := by
  refine ⟨fun pins s σ H Q I h => Call_ (ld_blt I hg hm PyProof.Rows.boot_list (PyProof.Rows.callWith_type1 (PyProof.Rows.args_cons (Call_ (ld_blt I hg2 hm2 PyProof.Rows.boot_enumerate ?_)) rfl) rfl rfl))⟩
  refine PyProof.Rows.callWith_type1 (PyProof.Rows.args_cons (thn (ha.run pins s σ H _ I h) fun v s1 hh => PyProof.Rows.args_nil ?_) na) na rfl
  obtain ⟨x, H1, I1, r1, l, xs, rfl, hq, q1⟩ := hh
  cases r1
  obtain ⟨its, rv, pl, hz⟩ := I1.list hq
  refine call_enum0 (begins_list l its.toArray) pl.isList fun h' hE hIt hk => PyProof.Rows.args_nil ?_
  have hls : l < s1.heap.objs.size := by obtain ⟨o, ho, _⟩ := pl.isList; exact Heap.lt_size ho
  have hne1 : s1.heap.objs.size + 1 ≠ s1.heap.objs.size := Nat.succ_ne_self _
  have hlen := rv.length
  refine call_list_enum (I1.ok.hd hc) hne1 (Nat.ne_of_lt (Nat.lt_succ_of_lt hls)) (Nat.ne_of_lt hls) (by simp only [List.size_toArray]; omega) hE ⟨_, hIt, rfl, rfl⟩ (let ⟨o, ho, r⟩ := pl.isList; ⟨o, hk _ _ ho, r⟩) fun h2 tk S ts hts hS hSo acc hold => ?_
  have hgrow : s1.heap.objs.size ≤ h'.objs.size := Nat.le_of_lt (Heap.lt_size hIt)
  have keep : ∀ b o, s1.heap.get? b = some o → h2.get? b = some o := fun b o hb => hold b o (Nat.ne_of_lt (Nat.lt_succ_of_lt (Heap.lt_size hb))) (Nat.ne_of_lt (Heap.lt_size hb)) (hk b o hb)
  have pr : Paired (fun t x => s1.heap.objs.size ≤ t ∧ x.length ≤ sizeLine ∧ ∃ its : List Value, Vals x its ∧ IsTup h2 t its.toArray) ts (enumL xs) := by
    refine paired_of (by rw [enumL_len, hts]; simp only [List.size_toArray]; omega) fun i t x h1 h3 => ?_
    obtain ⟨c1, c2, c3, c4, tk1, v, c5, c6⟩ := acc.each i t h1
    have hi : i < xs.length := by
      have := (List.getElem?_eq_some_iff.mp h3).1
      rw [enumL_len] at this
      exact this
    have hx : x = [.int (i : Nat), xs.getD i .non] := by
      unfold enumL at h3
      rw [List.getElem?_map, List.getElem?_range hi] at h3
      exact (Option.some.inj h3).symm
    obtain ⟨u, hu, ru⟩ := rv.get (i := i) (x := xs[i]) (List.getElem?_eq_getElem hi)
    obtain rfl : u = v := by
      have z : its[i]? = some v := by simpa using c5
      rw [hu] at z
      exact Option.some.inj z
    subst hx
    refine ⟨Nat.le_trans hgrow c1, by show 2 ≤ sizeLine; decide, [.int (i : Nat) tk1, u], .cons ⟨_, rfl⟩ (.cons ?_ .nil), ⟨_, c6, rfl, _, rfl⟩⟩
    rw [List.getD_eq_getElem?_getD, List.getElem?_eq_getElem hi]
    exact ru
  obtain ⟨H2, e2, u2, x2, p2, n2⟩ := more_tups (fs := X.fs) (ex := []) (I1.hok.kept keep) (Un.kept keep) (fun t ht => I1.hok.fresh ht) ts (enumL xs) acc.nd pr
  have hSn : H2 S = none := n2 S (Nat.le_trans hgrow hS) fun hm => by
    obtain ⟨j, hj⟩ := List.getElem?_of_mem hm
    exact (acc.each j S hj).2.2.2.1 rfl
  obtain ⟨c', hSo⟩ := hSo
  have hv : Vals (ts.map V.ref) (ts.map Value.ref) := by
    clear hSo pr p2 n2 u2 x2 e2 hSn acc hts
    induction ts with
    | nil => exact .nil
    | cons t ts ih => exact .cons rfl ih
  have I2 := I1.un (t' := tk) (un_more u2 (Nat.le_trans hgrow hS) hSn) (hok_more (o := .lst (ts.map V.ref)) x2 hSn ⟨by rw [List.length_map, hts]; simp only [List.size_toArray]; omega, ts.map Value.ref, c', hv, hSo⟩)
  refine ⟨.ref S, _, I2, rfl, q1 S _ (I1.hok.fresh (Nat.le_trans hgrow hS)) (e2.trans (Ex.new hSn)) ⟨ts, upd_same, pr_imp p2 fun t x _ q => (Ex.new hSn) _ _ q⟩⟩
end
end Qt
/-! Things with the same text, grouped in a dict. -/
namespace Qt
open PySem PySem.Spec PyProof.Rows L2 Evl
/-! ### places with the same text -/
def firsts (f : Nat → Str) (i : Nat) : List Nat := (List.range i).filter fun a => decide (∀ j, j < a → f j ≠ f a)
def sameP (f : Nat → Str) (i a : Nat) : List Nat := (List.range i).filter fun j => decide (f j = f a)
abbrev entry (f : Nat → Str) (g : Nat × Addr) : Key × V := (Sum.inr (f g.1), V.ref g.2)
/-- the dict of places as it stands behind i turns -/
structure Gr (f : Nat → Str) (pv : Nat → V) (B : Hp) (d : Addr) (i : Nat) (H : Hp) (gs : List (Nat × Addr)) : Prop where
  fs : gs.map (·.1) = firsts f i
  hd : H d = some (.dK (gs.map (entry f)))
  ls : ∀ g ∈ gs, H g.2 = some (.lst ((sameP f i g.1).map pv))
  nd : (gs.map (·.2)).Nodup
  nw : ∀ g ∈ gs, B g.2 = none
  ex : ∀ b o, b ≠ d → B b = some o → H b = some o
def longs (xs : List (List V)) : List (List V) := xs.filter fun x => decide (1 < x.length)
/-- the groups of n things pv with the texts f -/
def groupsL (f : Nat → Str) (pv : Nat → V) (n : Nat) : List (List V) := longs ((firsts f n).map fun a => (sameP f n a).map pv)
end Qt
/-! Small lemmas for calls that may raise. -/
namespace Qt
open PySem PySem.Spec PyProof.Rows L2 Evl
section
variable {K : PySem.W.Frag} {σ : L2.St} {H : Hp} {te : TE} {ta : TA}
/-- no promise at all -/
def spNo : Sp := fun _ _ _ _ => False
def tTruth (K : PySem.W.Frag) (ta : TE) : TT := fun σ H Q => ta σ H fun x H' => ∃ k, TruV K x H' k ∧ Q k H'
theorem et_truthS {t : TE} {z : Str} (h : Ev t σ H (.str z)) (hz : z.length ≤ 100000) : EvT (tTruth K t) σ H (!decide (z.length = 0)) := fun H1 e Q q =>
  h H1 e _ fun H2 e2 => ⟨_, ⟨sz_of hz, by
    by_cases h0 : z.length = 0
    · simp [h0]
    · have : ¬ ((z.length : Int) = 0) := by omega
      simp [h0]⟩, q H2 e2⟩
end
end Qt
/-! Lists of new things told by a word (tuples in tuples), and their order. -/
namespace Qt
open PySem PySem.Spec PyProof.Rows L2 Evl PySem.W
/-- the tuples stay -/
def Tx (H H' : Hp) : Prop := ∀ a xs, H a = some (.tup xs) → H' a = some (.tup xs)
/-- a new list, of which R is known -/
def EvP (te : TE) (σ : L2.St) (H : Hp) (R : List V → Hp → Prop) : Prop := ∀ H1, Ex H H1 → ∀ Q : VK, (∀ p H2 vs, H1 p = none → Ex H1 H2 → H2 p = some (.lst vs) → R vs H2 → Q (.ref p) H2) → te σ H1 Q
section
variable {K : PySem.W.Frag} {σ : L2.St} {H : Hp} {tl te tb : TE} {tt : TT} {ta : TA} {D : Ends} {tz : TS}
/-- which of the turns give -/
def gvn (n : Nat) (f : Nat → Bool) : List Nat := (List.range n).filter f
/-- between the turns -/
def Pw (H : Hp) (f : Nat → Bool) (rep : Nat → V → Hp → Prop) (Dl : Addr) (i : Nat) (H' : Hp) : Prop := H Dl = none ∧ Ex H H' ∧ ∃ ws, H' Dl = some (.lst ws) ∧ Paired (fun v j => rep j v H') ws (gvn i f)
end
/-! ### sorted lists -/
end Qt
/-! The first group. -/
namespace Qt
open PySem PySem.Spec PyProof.Rows L2 Evl
def lotB (f : Nat → Str) (n a : Nat) : Bool := decide (1 < (sameP f n a).length) && decide ((sameP f n a).head? = some a)
/-! ### what is appended, told by a word -/
section
variable {K : PySem.W.Frag} {σ : L2.St} {H : Hp} {ta te : TE} {ta' : TA} {D : Ends} {tz : TS}
end
end Qt
/-! What laws want often. -/
namespace Qt
open PySem PySem.Spec PyProof.Rows L2 Evl
section
variable {K : PySem.W.Frag} {σ : L2.St} {H : Hp} {te : TE}
end
end Qt
/-! zip(*xs): texts of one length put beside each other, a new tuple for each place, given to one name. -/
namespace Qt
open PySem PySem.Spec PyProof.Rows L2 Evl
/-- a zip's cell; o0 tells of the tuple it gave out last -/
abbrev ZipCell (h : Heap) (z TI TO : Nat) (o0 : Value) (f : Bool) : Prop := h.get? z = some { cls := .type "zip", dict := none, data := .fields #[o0, .bool f, .bool false, .ref TI, .ref TO], slots := #[] }
abbrev refsFrom (b n : Nat) : List Value := (List.range n).map fun k => .ref (b + k)
abbrev signAt (x : Str × Tok) (i : Nat) (u : Tok) : Value := .str ⟨#[x.1.cps.getD i 0]⟩ u
structure ZnSt (b TI TO z : Nat) (ts : List (Str × Tok)) (i : Nat) (h : Heap) : Prop where
  zip : ∃ o0 f, (o0 = .none ∨ ∃ T : Nat, o0 = rawInt T) ∧ ZipCell h z TI TO o0 f
  ti : h.get? TI = some { cls := .type "tuple", data := .seq (refsFrom b ts.length).toArray }
  to : ∃ a : Array Value, a.size = ts.length ∧ h.get? TO = some { cls := .type "tuple", data := .seq a }
  its : ∀ (k : Nat) (x : Str × Tok), ts[k]? = some x → h.IsStrIter (b + k) (strIterType x.1) x.1 x.2 i
/-- while a tuple is being made: the first k iterators have gone on -/
def ZnIts (b : Nat) (ts : List (Str × Tok)) (i k : Nat) (h : Heap) : Prop := ∀ (j : Nat) (x : Str × Tok), ts[j]? = some x → h.IsStrIter (b + j) (strIterType x.1) x.1 x.2 (if j < k then i + 1 else i)
def ZnVals (ts : List (Str × Tok)) (i k : Nat) (vs : List Value) : Prop := ∀ (j : Nat) (x : Str × Tok), j < k → ts[j]? = some x → ∃ u, vs[j]? = some (signAt x i u)
section
variable {prog : Program} {w : World} {A : Around} {E : Value → Shared → Prop} {s : Shared}
end
end Qt
/-! zip(*xs): how it begins; a for over it; the call with a star. -/
namespace Qt
open PySem PySem.Spec PyProof.Rows L2 Evl
abbrev strsOf (ts : List (Str × Tok)) : List Value := ts.map fun x => .str x.1 x.2
/-- a new zip over texts -/
def ZnNew (ts : List (Str × Tok)) (h h' : Heap) : Prop := ZnSt h.objs.size (h.objs.size + ts.length) (h.objs.size + ts.length + 1) (h.objs.size + ts.length + 2) ts 0 h' ∧
  h'.objs.size = h.objs.size + ts.length + 3 ∧ ∀ c o, h.get? c = some o → h'.get? c = some o
section
variable {prog : Program} {w : World} {A : Around} {E : Value → Shared → Prop} {s : Shared}
end
/-- the signs of many texts of one length, side by side, in a new tuple each -/
def Itzn (xs : List Str) (m : Nat) : It := ⟨fun i _ => i < m, fun i H v H' => ∃ T : Addr, v = .ref T ∧ H T = none ∧ H' = upd H T (.tup (xs.map fun x => .str ⟨#[x.cps.getD i 0]⟩)), fun i _ => i = m⟩
abbrev spanOf (b n : Nat) : List Addr := (List.range n).map fun k => b + k
/-- zip(*e), e a list of texts -/
def iZipN (K : PySem.W.Frag) (te : TE) : TI := fun σ H R => te σ H fun y H1 => ∃ (a : Addr) (xs : List Str) (m : Nat), y = .ref a ∧ SqL K H1 a (xs.map V.str) ∧ 1 ≤ xs.length ∧ (∀ x ∈ xs, x.cps.size = m) ∧ R (Itzn xs m) H1
end Qt
/-! set of a tuple; sets of few texts made of many. -/
namespace Qt
open PySem PySem.Spec PyProof.Rows L2 Evl PySem.W
section
variable {P : Program} {w : World} {A : Around} {E : Value → Shared → Prop} {s : Shared}
variable {a : Addr} {M : Str → Bool}
end
section
variable {X : Cx}
/-- sorted(set(xs)), xs many texts, but few that are not alike (no more than Y tells) -/
def tSortedSetY (K : PySem.W.Frag) (ta : TE) : TE := fun σ H Q => ta σ H fun x H1 => ∃ (l : Addr) (xs Y : List Str), x = .ref l ∧ SqL K H1 l (xs.map V.str) ∧ (∀ x ∈ xs, x ∈ Y) ∧ Y.length ≤ 4090 ∧
  ∀ ys : List Str, ys.Pairwise (fun x y => x.cps.toList < y.cps.toList) → (∀ k, k ∈ ys ↔ k ∈ xs) → ∀ p, H1 p = none → Q (.ref p) (upd H1 p (.lst (ys.map V.str)))
/-- len(set(xs)), xs a tuple or list of texts, few that are not alike -/
def tLenSetY (K : PySem.W.Frag) (ta : TE) : TE := fun σ H Q => ta σ H fun x H1 => ∃ (l : Addr) (xs Y : List Str), x = .ref l ∧ (SqT K H1 l (xs.map V.str) ∨ SqL K H1 l (xs.map V.str)) ∧ (∀ x ∈ xs, x ∈ Y) ∧ Y.length ≤ 4090 ∧
  ∀ ds : List Str, ds.Nodup → (∀ k, k ∈ ds ↔ k ∈ xs) → Q (.int (ds.length : Int)) H1
end
end Qt
/-! Loops over the signs of a text; comprehensions over zip(*xs); sets of few texts. -/
namespace Qt
open PySem PySem.Spec PyProof.Rows L2 Evl
section
variable {K : PySem.W.Frag} {σ : L2.St} {H : Hp} {te tl to : TE} {t : TT} {ta : TA} {tu : TS} {D : Ends}
end
end Qt
/-! Calls that draw (their promise is told raw), with the statement they stand in. -/
namespace Qt
open PySem PySem.Spec PyProof.Rows L2 Evl
section
variable {K : PySem.W.Frag} {σ : L2.St} {H : Hp} {ta : TA} {te : TE} {tz tu : TS} {D : Ends} {sp : Sp} {E : XK} {vs : List V}
end
end Qt
/-! Comprehensions over range(lo, n) with a test; xs.index(y); the first turn that a test lets through. -/
namespace Qt
open PySem PySem.Spec PyProof.Rows L2 Evl
section
variable {K : PySem.W.Frag} {σ : L2.St} {H : Hp} {te tl to : TE} {t : TT} {ta : TA}
end
end Qt
/-! Sets of fewer than 64 tuples of texts: searching, adding, filling. The table's own lemmas are the library's (HandS.TupSets); what is said of the tuples is said here for keys of any kind that answers by value. -/
namespace Qt
open PySem PySem.Spec PyProof.Rows L2 Evl PySem.W
section
variable {κ : Type} [DecidableEq κ] {P : Program} {w : World} {knd : PySem.KeyKind P w κ}
/-- things of this kind are asked about without any code of a class -/
def Tame (knd : PySem.KeyKind P w κ) : Prop := ∀ (c : κ) (u : Value), knd.is c u = true → ∀ d, ofAClassStatement d u = pure false ∧ ∃ b, hashByValue d u = pure b
variable {A : Around} {E : Value → Shared → Prop} {s : Shared}
/-- the set at S holds the tuples G -/
structure TupSet (knd : PySem.KeyKind P w κ) (h : Heap) (S : Addr) (G : List (Addr × List κ)) (es : Array (Int × Value)) (ep : Nat) (tb : SetTable) : Prop where
  obj : ∃ ob, h.get? S = some ob ∧ ob.ExactSet ∧ ob.data = .set es ep tb
  ents : es.toList = G.map fun g => (tupleKeyHash knd g.2, Value.ref g.1)
  tab : TabOk tb (G.map fun g => tupleKeyHash knd g.2)
  dist : (G.map Prod.snd).Nodup
  here : ∀ g ∈ G, IsTupleKey knd h g.2 g.1
  led : w.params.followText "set-order" = true ∨ tb.led = true
  room : G.length * 5 < tb.mask * 3
  few : G.length < 64
variable {S : Addr} {G : List (Addr × List κ)} {es : Array (Int × Value)} {ep : Nat} {tb : SetTable}
/-- a search on its c-th step, on a table whose first empty slot of the way is the N-th -/
abbrev stepAt (m : Nat) (v : Int) (c : Nat) : SetTable.Probe := nth m (runAt m (SetTable.bits v % (m + 1)) (SetTable.bits v)) c
end
end Qt
/-! len(set(xs)), xs a list of tuples of texts. -/
namespace Qt
open PySem PySem.Spec PyProof.Rows L2 Evl PySem.W
section
variable {P : Program} {w : World} {A : Around} {E : Value → Shared → Prop} {s : Shared} {κ : Type} [DecidableEq κ] {knd : PySem.KeyKind P w κ}
/-- what the set holds of the first i things -/
structure Held (gs : List (Addr × List κ)) (i : Nat) (G : List (Addr × List κ)) : Prop where
  from' : ∀ g ∈ G, g ∈ gs.take i
  keys : ∀ k, k ∈ G.map Prod.snd ↔ k ∈ (gs.take i).map Prod.snd
  many : G.length ≤ i
  all : G.length = i ↔ ((gs.take i).map Prod.snd).Nodup
end
section
variable {X : Cx}
/-- len(set(xs)), xs fewer than 64 tuples of texts -/
def tLenSetT (K : PySem.W.Frag) (ta : TE) : TE := fun σ H Q => ta σ H fun x H1 => ∃ (l : Addr) (gs : List (Addr × List Str)), x = .ref l ∧ SqL K H1 l (gs.map fun g => V.ref g.1) ∧ (∀ g ∈ gs, SqT K H1 g.1 (g.2.map V.str)) ∧ gs.length < 64 ∧
  ∀ n : Nat, n ≤ gs.length → (n = gs.length ↔ (gs.map Prod.snd).Nodup) → Q (.int (n : Int)) H1
end
end Qt
/-! Comprehensions that make a new thing for each turn; tuple(a new list); all(a new list); len(set(..)) == len(..) of new tuples. -/
namespace Qt
open PySem PySem.Spec PyProof.Rows L2 Evl PySem.W
section
variable {K : PySem.W.Frag} {σ : L2.St} {H : Hp} {tl te tb : TE} {tt : TT} {ta : TA} {D : Ends} {tz : TS}
/-- a new tuple for each turn -/
def repT (ys : Nat → List V) (i : Nat) (v : V) (H : Hp) : Prop := ∃ t, v = .ref t ∧ H t = some (.tup (ys i))
end
section
variable {X : Cx}
/-- len(set(xs)), xs texts, or fewer than 64 tuples of texts -/
def tLenSetA (K : PySem.W.Frag) (ta : TE) : TE := fun σ H Q => ta σ H fun x H1 =>
  (∃ (l : Addr) (xs : List Str), x = .ref l ∧ SqL K H1 l (xs.map V.str) ∧ xs.length ≤ 2000 ∧ ∀ n : Nat, n ≤ xs.length → (n = xs.length ↔ xs.Nodup) → Q (.int (n : Int)) H1) ∨
  (∃ (l : Addr) (gs : List (Addr × List Str)), x = .ref l ∧ SqL K H1 l (gs.map fun g => V.ref g.1) ∧ (∀ g ∈ gs, SqT K H1 g.1 (g.2.map V.str)) ∧ gs.length < 64 ∧
    ∀ n : Nat, n ≤ gs.length → (n = gs.length ↔ (gs.map Prod.snd).Nodup) → Q (.int (n : Int)) H1)
end
section
variable {K : PySem.W.Frag} {σ : L2.St} {H : Hp} {te tb : TE}
end
end Qt
/-! Comprehensions over zip of two lists; comparing a list of anything with []. -/
namespace Qt
open PySem PySem.Spec PyProof.Rows L2 Evl PySem.W
section
variable {X : Cx}
end
section
variable {K : PySem.W.Frag} {σ : L2.St} {H : Hp} {tl te tb : TE} {t : TT} {ta : TA}
end
end Qt
/-! zip of a list and a list or a tuple. -/
namespace Qt
open PySem PySem.Spec PyProof.Rows L2 Evl
/-- the items of a list beside those of a tuple, in new pairs -/
def ItzB (K : PySem.W.Frag) (a b : Addr) : It := ⟨fun i H => ∃ xs ys, SqL K H a xs ∧ SqT K H b ys ∧ i < min xs.length ys.length,
  fun i H v H' => ∃ (T : Addr) (x y : V), v = .ref T ∧ H T = none ∧ H' = upd H T (.tup [x, y]) ∧ (∀ xs, SqL K H a xs → xs[i]? = some x) ∧ ∀ ys, SqT K H b ys → ys[i]? = some y, fun i H => ∃ xs ys, SqL K H a xs ∧ SqT K H b ys ∧ i = min xs.length ys.length⟩
def AtZipB (a b z TI TO i1 i2 : Addr) (i : Nat) (h : Heap) : Prop := IsZip h z TI TO .none ∧ IsTupOf2 h TI (.ref i1) (.ref i2) ∧ (∃ a1 a2, IsTupOf2 h TO a1 a2) ∧ h.IsListIter i1 a i ∧ h.IsTupleIter i2 b i
/-- zip of a list and of what is a list or a tuple -/
def iZipB (K : PySem.W.Frag) (ta : TA) : TI := fun σ H R => ta σ H fun vs H1 => ∃ a b xs ys, vs = [.ref a, .ref b] ∧ SqL K H1 a xs ∧ ((SqL K H1 b ys ∧ R (Itz K a b) H1) ∨ (SqT K H1 b ys ∧ R (ItzB K a b) H1))
section
variable {K : PySem.W.Frag} {σ : L2.St} {H : Hp} {tl te tb : TE} {t : TT} {ta : TA}
end
end Qt
namespace Qt
open PySem PySem.Spec PyProof.Rows L2 Evl
section
variable {X : Cx} {C g : Addr} {k : Nat} {fd : FuncData} {ps : List Str} {sp : Sp}
/-- len(o), o of an own class that says its length -/
def rLenO (C : Addr) (sp : Sp) : List V → Hp → VK → Prop := fun xs H Q => ∃ a dx fs, xs = [.ref a] ∧ H a = some (.ins C dx fs) ∧ sp [.ref a] H (fun v H' => ∃ n : Nat, v = .int (n : Int) ∧ n < 2 ^ 63 ∧ Q v H') E0
/-- o.m(..) within a suite: what may come out goes to the handlers -/
def tMethE (C : Addr) (m : Str) (sp : Sp) (E : L2.St → XK) (ta : TE) (t : TA) : TE := fun σ H Q => ta σ H fun x H1 => ∃ a dx fs, x = .ref a ∧ H1 a = some (.ins C dx fs) ∧ fs.lookup m = none ∧ t σ H1 fun vs H2 => sp (x :: vs) H2 Q (E σ)
end
/-- a property of an own class stands in the written part -/
def PropAt (K : PySem.W.Frag) (C : Addr) (n q : Str) (st : Stmt) : Prop := ∃ p g, PySem.W.findIn K (.ref C) n = some (some (.ref p)) ∧ PySem.W.specialIn K (.ref p) "__get__" = some (some (.builtin "property.__get__")) ∧ PySem.W.takesIn K (.ref p) = some true ∧ (∃ rest, PySem.W.recIn K p "property" = some (.ref g :: rest)) ∧ FnAt K g n q st
def PropC (K : PySem.W.Frag) (C : Addr) (n q : Str) (st : Stmt) (ps : List Str) : Prop := ∃ p g fd, PropOf K C n p g ∧ Fun K n q st g fd ∧ L2.Binds K fd ps []
end Qt
namespace Qt
open PySem PySem.Spec PyProof.Rows L2 Evl
section
variable {X : Cx}
end
end Qt
/-! dicts whose keys are tuples that hold tuples, all of whose values are True: {}, d[k] = True, list(d). -/
namespace Qt
open PySem PySem.Spec PyProof.Rows L2 Evl
mutual
/-- the value is a key, by what is tracked -/
inductive TK (H : Hp) : NestedKey → V → Prop
  | num (i : Int) : TK H (.num i) (.int i)
  | text (x : Str) : TK H (.text x) (.str x)
  | tup {a : Addr} {vs : List V} {ks : List NestedKey} : H a = some (.tup vs) → TKs H ks vs → TK H (.tup ks) (.ref a)
inductive TKs (H : Hp) : List NestedKey → List V → Prop
  | nil : TKs H [] []
  | cons {k : NestedKey} {v : V} {ks : List NestedKey} {vs : List V} : TK H k v → TKs H ks vs → TKs H (k :: ks) (v :: vs)
end
mutual
theorem TK.ex {H H1 : Hp} (e : ∀ b xs, H b = some (.tup xs) → H1 b = some (.tup xs)) : ∀ (k : NestedKey) (v : V), TK H k v → TK H1 k v
  | .none, _, h => by cases h
  | .num i, _, h => by cases h; exact .num i
  | .text x, _, h => by cases h; exact .text x
  | .tup ks, _, h => by
    cases h with
    | tup h1 h2 => exact .tup (e _ _ h1) (TKs.ex e ks _ h2)
theorem TKs.ex {H H1 : Hp} (e : ∀ b xs, H b = some (.tup xs) → H1 b = some (.tup xs)) : ∀ (ks : List NestedKey) (vs : List V), TKs H ks vs → TKs H1 ks vs
  | [], _, h => by cases h; exact .nil
  | k :: ks, _, h => by
    cases h with
    | cons h1 h2 => exact .cons (TK.ex e k _ h1) (TKs.ex e ks _ h2)
end
mutual
theorem TK.is {P : Program} {w : World} {H : Hp} {h : Heap} (ok : HOk P w H h) : ∀ (k : NestedKey) (v : V) (u : Value), TK H k v → RelV v u → NestedIs h k u
  | .none, _, _, x, _ => by cases x
  | .num i, _, _, x, r => by
    cases x
    obtain ⟨t, rfl⟩ := r
    exact .int i t
  | .text s, _, _, x, r => by
    cases x
    obtain ⟨t, rfl⟩ := r
    exact .text s t
  | .tup ks, _, _, x, r => by
    cases x with
    | tup h1 h2 =>
      cases r
      obtain ⟨_, its, rv, ob, e1, e2, n, e3⟩ := (show ObjOk P w H h _ (.tup _) from ok _ _ h1)
      exact .tup e1 e2 e3 (by simpa using TKs.is ok ks _ _ h2 rv)
theorem TKs.is {P : Program} {w : World} {H : Hp} {h : Heap} (ok : HOk P w H h) : ∀ (ks : List NestedKey) (vs : List V) (us : List Value), TKs H ks vs → Vals vs us → NestedAll h ks us
  | [], _, _, x, r => by
    cases x
    cases r
    exact .nil
  | k :: ks, _, _, x, r => by
    cases x with
    | cons h1 h2 =>
      cases r with
      | cons r1 r2 => exact .cons (TK.is ok k _ _ h1 r1) (TKs.is ok ks _ _ h2 r2)
end
/-- keys and the tuples that they are -/
abbrev NEs := List (NestedKey × Addr)
def trp (x : NestedKey × Addr) : NestedKey × Addr × Value := (x.1, x.2, .bool true)
/-- at a: a dict of such keys, each with True -/
def ND (P : Program) (w : World) (a : Addr) (xs : NEs) : HO := .ext fun h => (a == sysModules) = false ∧ xs.length ≤ sizeLine ∧
  ∃ o es ep, h.get? a = some o ∧ o.ExactDict ∧ o.data = .dict es ep ∧ es.toList = (xs.map trp).map (entryOfKey (nestedKind P w)) ∧ (xs.map (·.1)).Nodup
def NKs (H : Hp) (xs : NEs) : Prop := ∀ x ∈ xs, TK H x.1 (.ref x.2) ∧ x.1.depth ≤ 8
def putN (xs : NEs) (k : NestedKey) (b : Addr) : NEs := if k ∈ xs.map (·.1) then xs else xs ++ [(k, b)]
section
variable {P : Program} {w : World} {H : Hp} {h : Heap} {a : Addr} {xs : NEs}
end
def tDNewN (P : Program) (w : World) : TE := fun _ H Q => ∀ p, H p = none → Q (.ref p) (upd H p (ND P w p []))
/-- d[k] = v -/
def sDPutN (P : Program) (w : World) (td ty tv : TE) : TS := fun D σ H => tv σ H fun v H1 => td σ H1 fun x H2 => ty σ H2 fun y H3 => ∃ a xs k b, v = .bl true ∧ x = .ref a ∧ y = .ref b ∧ H3 a = some (ND P w a xs) ∧ NKs H3 xs ∧ TK H3 k (.ref b) ∧ k.depth ≤ 8 ∧ xs.length < sizeLine ∧ D.nx σ (upd H3 a (ND P w a (putN xs k b)))
section
variable {X : Cx} {pos : Pos}
end
section
variable {X : Cx} {pins : List (Addr × Obj)} {σ : L2.St} {H : Hp} {s : Shared}
/-- sorted of a list or a tuple of alike data -/
def rSortedB (K : PySem.W.Frag) : List V → Hp → VK → Prop := fun xs H Q => ∃ (a : Addr) (zs : List (PyData × V)), xs = [.ref a] ∧ SqA K H a (zs.map Prod.snd) ∧ DpAll K H (zs.map Prod.snd) (zs.map Prod.fst) ∧ PySem.W.AllAlike (zs.map Prod.fst) ∧ PySem.W.Sortable (zs.map Prod.fst) ∧ (∀ z ∈ zs, z.1.depth ≤ 60) ∧
  ∀ p, H p = none → Q (.ref p) (upd H p (.lst ((zs.mergeSort (PySem.W.dataLe false Prod.fst)).map Prod.snd)))
end
/-- a tuple, new or not -/
def EvQ (te : TE) (σ : L2.St) (H : Hp) (xs : List V) : Prop := ∀ H1, Ex H H1 → ∀ Q : VK, (∀ p H2, Ex H1 H2 → H2 p = some (.tup xs) → Q (.ref p) H2) → te σ H1 Q
section
variable {K : PySem.W.Frag} {σ : L2.St} {H : Hp}
end
end Qt
/-! lists of lists of plain values and tuples: made, copied, compared; what is changed elsewhere. -/
namespace Qt
open PySem PySem.Spec PyProof.Rows L2 Evl
inductive IT where
  | flat (v : V)
  | tup (vs : List V)
def dI : IT → PyData
  | .flat v => datV v
  | .tup vs => .tuple (vs.map datV)
def okI : IT → Prop
  | .flat v => okV v
  | .tup vs => ∀ v ∈ vs, okV v
def IAt (H : Hp) (v : V) : IT → Prop
  | .flat x => v = x
  | .tup vs => ∃ t, v = .ref t ∧ H t = some (.tup vs)
def InAt (H : Hp) (p : Addr) (its : List IT) : Prop := ∃ xs, H p = some (.lst xs) ∧ Paired (IAt H) xs its
def TAt (H : Hp) (l : Addr) (ps : List Addr) (T : List (List IT)) : Prop := H l = some (.lst (ps.map V.ref)) ∧ Paired (InAt H) ps T
def okT (T : List (List IT)) : Prop := ∀ its ∈ T, ∀ it ∈ its, okI it
def dT (T : List (List IT)) : PyData := .list (T.map fun its => .list (its.map dI))
/-- all but some lists stays -/
def Off (ps : List Addr) (H H1 : Hp) : Prop := ∀ a o, a ∉ ps → H a = some o → H1 a = some o
def AllL (H : Hp) (ps : List Addr) : Prop := ∀ p ∈ ps, ∃ xs, H p = some (.lst xs)
/-- a new list of such items -/
def EvI (te : TE) (σ : L2.St) (H : Hp) (its : List IT) : Prop := ∀ H1, Ex H H1 → ∀ Q : VK, (∀ p H2, H1 p = none → Ex H1 H2 → InAt H2 p its → Q (.ref p) H2) → te σ H1 Q
/-- some such lists, one behind the other -/
def EvIs (ta : TA) (σ : L2.St) (H : Hp) (T : List (List IT)) : Prop := ∀ H1, Ex H H1 → ∀ Q : List V → Hp → Prop, (∀ ps H2, (∀ p ∈ ps, H1 p = none) → Ex H1 H2 → Paired (InAt H2) ps T → Q (ps.map V.ref) H2) → ta σ H1 Q
/-- a new list of new lists -/
def EvTT (te : TE) (σ : L2.St) (H : Hp) (T : List (List IT)) : Prop := ∀ H1, Ex H H1 → ∀ Q : VK, (∀ l ps H2, H1 l = none → (∀ p ∈ ps, H1 p = none) → l ∉ ps → Ex H1 H2 → TAt H2 l ps T → Q (.ref l) H2) → te σ H1 Q
section
variable {K : PySem.W.Frag} {σ : L2.St} {H : Hp} {te : TE} {ta : TA}
def EvTC (te : TE) (σ : L2.St) (H : Hp) (ps : List Addr) (T : List (List IT)) : Prop := ∀ H1, Ex H H1 → ∀ Q : VK, (∀ l qs H2, H1 l = none → (∀ p ∈ qs, H1 p = none) → l ∉ ps ++ qs → Ex H1 H2 → TAt H2 l (ps ++ qs) T → Q (.ref l) H2) → te σ H1 Q
end
end Qt
namespace Qt
open PySem PySem.Spec PyProof.Rows L2 Evl
section
variable {K : PySem.W.Frag} {σ : L2.St} {H : Hp}
end
end Qt
namespace Qt
open PySem PySem.Spec PyProof.Rows L2 Evl
section
variable {K : PySem.W.Frag} {σ : L2.St} {H : Hp} {ta : TA} {t : TT} {te : TE}
end
end Qt
namespace Qt
open PySem PySem.Spec PyProof.Rows L2 Evl
end Qt
namespace Qt
open PySem PySem.Spec PyProof.Rows L2 Evl
end Qt
/-! a walk over a new list of tuples, a comprehension over a tuple, sorted of a dict of texts, x[::-1] of a list. -/
namespace Qt
open PySem PySem.Spec PyProof.Rows L2 Evl
section
variable {K : PySem.W.Frag} {σ : L2.St} {H : Hp} {tl te : TE}
end
section
variable {X : Cx}
/-- sorted(d), d a dict of texts -/
def rSortedDk : List V → Hp → VK → Prop := fun xs H Q => ∃ (a : Addr) (kvs : List (Key × V)) (ks : List Str), xs = [.ref a] ∧ H a = some (.dK kvs) ∧ kvs.map (·.1) = ks.map Sum.inr ∧
  ∀ p, H p = none → Q (.ref p) (upd H p (.lst ((ks.mergeSort fun x y => decide (x.cps.toList ≤ y.cps.toList)).map V.str)))
end
end Qt
namespace Qt
open PySem PySem.Spec PyProof.Rows L2 Evl
end Qt
/-! what stands for data of any shape: compared. -/
namespace Qt
open PySem PySem.Spec PyProof.Rows L2 Evl
mutual
theorem Dp.exS {K : PySem.W.Frag} {H H1 : Hp} (e : Ex H H1) : ∀ (d : PyData) (v : V), Dp K H v d → Dp K H1 v d
  | .list ds, _, h => by
    cases h with
    | lst h1 h2 => exact .lst (ex_l e h1) (DpAll.exS e ds _ h2)
  | .tuple ds, _, h => by
    cases h with
    | tup h1 h2 => exact .tup (ex_t e h1) (DpAll.exS e ds _ h2)
  | .none, _, h => by cases h; exact .non
  | .bool b, _, h => by cases h; exact .bl b
  | .int i, _, h => by cases h; exact .int i
  | .str x, _, h => by cases h; exact .str x
theorem DpAll.exS {K : PySem.W.Frag} {H H1 : Hp} (e : Ex H H1) : ∀ (ds : List PyData) (vs : List V), DpAll K H vs ds → DpAll K H1 vs ds
  | [], _, h => by cases h; exact .nil
  | d :: ds, _, h => by
    cases h with
    | cons h1 h2 => exact .cons (Dp.exS e d _ h1) (DpAll.exS e ds _ h2)
end
/-- what is made stands for the data d -/
def EvX (K : PySem.W.Frag) (te : TE) (σ : L2.St) (H : Hp) (d : PyData) : Prop := ∀ H1, Ex H H1 → ∀ Q : VK, (∀ v H2, Ex H1 H2 → Dp K H2 v d → Q v H2) → te σ H1 Q
def EvXs (K : PySem.W.Frag) (ta : TA) (σ : L2.St) (H : Hp) (ds : List PyData) : Prop := ∀ H1, Ex H H1 → ∀ Q : List V → Hp → Prop, (∀ vs H2, Ex H1 H2 → DpAll K H2 vs ds → Q vs H2) → ta σ H1 Q
section
variable {K : PySem.W.Frag} {σ : L2.St} {H : Hp} {te ta tb : TE} {d : PyData}
theorem dx_ev {v : V} (h : Ev te σ H v) (k : okV v) : EvX K te σ H (datV v) := fun H1 e Q q => h H1 e Q fun H2 e2 => q v H2 e2 (dp_flat k)
theorem dx_L {xs : List V} (h : EvL te σ H xs) (k : ∀ v ∈ xs, okV v) : EvX K te σ H (.list (xs.map datV)) := fun H1 e Q q => h H1 e Q fun p H2 _ e2 hp => q _ H2 e2 (.lst (sq_of hp) (dp_flats k))
theorem dx_nil : EvXs K tNil σ H [] := fun H1 _ Q q => q [] H1 (Ex.refl H1) .nil
theorem dx_cons {tr : TA} {ds : List PyData} (h : EvX K te σ H d) (hr : EvXs K tr σ H ds) : EvXs K (tCons te tr) σ H (d :: ds) := fun H1 e Q q =>
  h H1 e _ fun v H2 e2 hv => hr H2 (e.trans e2) _ fun vs H3 e3 hvs => q _ H3 (e2.trans e3) (.cons (Dp.exS e3 d v hv) hvs)
theorem dpAll_len {H : Hp} : ∀ {vs : List V} {ds : List PyData}, DpAll K H vs ds → vs.length = ds.length
  | _, _, .nil => rfl
  | _, _, .cons _ h => by rw [List.length_cons, List.length_cons, dpAll_len h]
theorem dx_tup {tr : TA} {ds : List PyData} (h : EvXs K tr σ H ds) (hl : ds.length ≤ 1000) : EvX K (tTup tr) σ H (.tuple ds) := fun H1 e Q q =>
  h H1 e _ fun vs H2 e2 hv => ⟨sz_of (by rw [dpAll_len hv]; omega), fun p np => q _ _ (e2.trans (Ex.new np)) (.tup (st_of upd_same) (DpAll.exS (Ex.new np) ds vs hv))⟩
theorem ev_eqX (ha : EvX K ta σ H d) (hb : EvX K tb σ H d) (s : SeqAt.shaped d = true) : Ev (tOp (rEqD K) ta tb) σ H (.bl true) := fun H1 e Q q =>
  ha H1 e _ fun v H2 e2 hv => hb H2 (e.trans e2) _ fun u H3 e3 hu => eq_same (Dp.exS e3 d v hv) hu s (q H3 (e2.trans e3))
end
end Qt
namespace K01
open PySem PySem.Spec PyProof.Rows L2 Evl Qt
def topS (i : Nat) : Stmt := PySem.Challenge.pw_holedwindows_k01_masks_refused.main.body.getD i (.Pass ⟨0, 0, 0, 0⟩)
abbrev s__wall : Stmt := topS 0
abbrev n__wall : List Str := ["k"]
abbrev p__wall : List Str := ["k"]
abbrev s_parts_of : Stmt := topS 2
abbrev n_parts_of : List Str := ["thing"]
abbrev p_parts_of : List Str := ["thing"]
abbrev s_rebuilt : Stmt := topS 3
abbrev n_rebuilt : List Str := ["thing", "parts", "key", "part"]
abbrev p_rebuilt : List Str := ["thing", "parts"]
abbrev s_copied : Stmt := topS 4
abbrev n_copied : List Str := ["value", "waiting", "ready", "thing", "has_parts", "start", "parts", "part"]
abbrev p_copied : List Str := ["value"]
abbrev s_BadViews___init__ : Stmt := inClass (topS 9) 0
abbrev n_BadViews___init__ : List Str := ["self", "index"]
abbrev p_BadViews___init__ : List Str := ["self", "index"]
abbrev s_BadNumber___init__ : Stmt := inClass (topS 11) 0
abbrev n_BadNumber___init__ : List Str := ["self", "n"]
abbrev p_BadNumber___init__ : List Str := ["self", "n"]
abbrev s_TooLong___init__ : Stmt := inClass (topS 13) 0
abbrev n_TooLong___init__ : List Str := ["self", "most"]
abbrev p_TooLong___init__ : List Str := ["self", "most"]
abbrev s_TooMany___init__ : Stmt := inClass (topS 14) 0
abbrev n_TooMany___init__ : List Str := ["self", "most"]
abbrev p_TooMany___init__ : List Str := ["self", "most"]
abbrev s_made_of : Stmt := topS 23
abbrev n_made_of : List Str := ["value", "signs", "sign"]
abbrev p_made_of : List Str := ["value", "signs"]
theorem sc_made_of : FnScope n_made_of p_made_of (defScope s_made_of) := ⟨rfl, rfl, rfl, by decide +kernel, rfl, by decide +kernel, by decide +kernel⟩
abbrev s_is_mask : Stmt := topS 24
abbrev n_is_mask : List Str := ["value"]
abbrev p_is_mask : List Str := ["value"]
theorem sc_is_mask : FnScope n_is_mask p_is_mask (defScope s_is_mask) := ⟨rfl, rfl, rfl, by decide +kernel, rfl, by decide +kernel, by decide +kernel⟩
abbrev s_check_mask : Stmt := topS 25
abbrev n_check_mask : List Str := ["mask"]
abbrev p_check_mask : List Str := ["mask"]
theorem sc_check_mask : FnScope n_check_mask p_check_mask (defScope s_check_mask) := ⟨rfl, rfl, rfl, by decide +kernel, rfl, by decide +kernel, by decide +kernel⟩
abbrev s_is_row : Stmt := topS 26
abbrev n_is_row : List Str := ["value"]
abbrev p_is_row : List Str := ["value"]
theorem sc_is_row : FnScope n_is_row p_is_row (defScope s_is_row) := ⟨rfl, rfl, rfl, by decide +kernel, rfl, by decide +kernel, by decide +kernel⟩
abbrev s_check_row : Stmt := topS 27
abbrev n_check_row : List Str := ["row"]
abbrev p_check_row : List Str := ["row"]
theorem sc_check_row : FnScope n_check_row p_check_row (defScope s_check_row) := ⟨rfl, rfl, rfl, by decide +kernel, rfl, by decide +kernel, by decide +kernel⟩
abbrev s_check_ring : Stmt := topS 28
abbrev n_check_ring : List Str := ["row"]
abbrev p_check_ring : List Str := ["row"]
theorem sc_check_ring : FnScope n_check_ring p_check_ring (defScope s_check_ring) := ⟨rfl, rfl, rfl, by decide +kernel, rfl, by decide +kernel, by decide +kernel⟩
abbrev s_is_look : Stmt := topS 29
abbrev n_is_look : List Str := ["told", "mask"]
abbrev p_is_look : List Str := ["told", "mask"]
abbrev s_check_look : Stmt := topS 30
abbrev n_check_look : List Str := ["told", "mask"]
abbrev p_check_look : List Str := ["told", "mask"]
abbrev s_check_looks : Stmt := topS 31
abbrev n_check_looks : List Str := ["looks", "mask", "index", "told"]
abbrev p_check_looks : List Str := ["looks", "mask"]
abbrev s_is_number : Stmt := topS 32
abbrev n_is_number : List Str := ["n", "least", "most"]
abbrev p_is_number : List Str := ["n", "least", "most"]
theorem sc_is_number : FnScope n_is_number p_is_number (defScope s_is_number) := ⟨rfl, rfl, rfl, by decide +kernel, rfl, by decide +kernel, by decide +kernel⟩
abbrev s_check_number : Stmt := topS 33
abbrev n_check_number : List Str := ["n", "least", "most"]
abbrev p_check_number : List Str := ["n", "least", "most"]
theorem sc_check_number : FnScope n_check_number p_check_number (defScope s_check_number) := ⟨rfl, rfl, rfl, by decide +kernel, rfl, by decide +kernel, by decide +kernel⟩
abbrev s_check_letters : Stmt := topS 34
abbrev n_check_letters : List Str := ["letters"]
abbrev p_check_letters : List Str := ["letters"]
theorem sc_check_letters : FnScope n_check_letters p_check_letters (defScope s_check_letters) := ⟨rfl, rfl, rfl, by decide +kernel, rfl, by decide +kernel, by decide +kernel⟩
abbrev s_check_great : Stmt := topS 35
abbrev n_check_great : List Str := ["width", "many", "letters"]
abbrev p_check_great : List Str := ["width", "many", "letters"]
theorem sc_check_great : FnScope n_check_great p_check_great (defScope s_check_great) := ⟨rfl, rfl, rfl, by decide +kernel, rfl, by decide +kernel, by decide +kernel⟩
abbrev s_check_small : Stmt := topS 36
abbrev n_check_small : List Str := ["mask", "letters"]
abbrev p_check_small : List Str := ["mask", "letters"]
theorem sc_check_small : FnScope n_check_small p_check_small (defScope s_check_small) := ⟨rfl, rfl, rfl, by decide +kernel, rfl, by decide +kernel, by decide +kernel⟩
abbrev s_check_row_in : Stmt := topS 37
abbrev n_check_row_in : List Str := ["row", "letters"]
abbrev p_check_row_in : List Str := ["row", "letters"]
theorem sc_check_row_in : FnScope n_check_row_in p_check_row_in (defScope s_check_row_in) := ⟨rfl, rfl, rfl, by decide +kernel, rfl, by decide +kernel, by decide +kernel⟩
abbrev s_check_lettered : Stmt := topS 38
abbrev n_check_lettered : List Str := ["row", "mask", "letters"]
abbrev p_check_lettered : List Str := ["row", "mask", "letters"]
theorem sc_check_lettered : FnScope n_check_lettered p_check_lettered (defScope s_check_lettered) := ⟨rfl, rfl, rfl, by decide +kernel, rfl, by decide +kernel, by decide +kernel⟩
abbrev s_seen : Stmt := topS 40
abbrev n_seen : List Str := ["mask", "place", "sign"]
abbrev p_seen : List Str := ["mask"]
theorem sc_seen : FnScope n_seen p_seen (defScope s_seen) := ⟨rfl, rfl, rfl, by decide +kernel, rfl, by decide +kernel, by decide +kernel⟩
abbrev s_together : Stmt := topS 41
abbrev n_together : List Str := ["one", "other", "far", "places", "width", "place"]
abbrev p_together : List Str := ["one", "other", "far"]
theorem sc_together : FnScope n_together p_together (defScope s_together) := ⟨rfl, rfl, rfl, by decide +kernel, rfl, by decide +kernel, by decide +kernel⟩
abbrev s_view_at : Stmt := topS 43
abbrev n_view_at : List Str := ["row", "places", "start", "place"]
abbrev p_view_at : List Str := ["row", "places", "start"]
theorem sc_view_at : FnScope n_view_at p_view_at (defScope s_view_at) := ⟨rfl, rfl, rfl, by decide +kernel, rfl, by decide +kernel, by decide +kernel⟩
abbrev s_others : Stmt := topS 44
abbrev n_others : List Str := ["view", "look", "letter", "sign"]
abbrev p_others : List Str := ["view", "look"]
theorem sc_others : FnScope n_others p_others (defScope s_others) := ⟨rfl, rfl, rfl, by decide +kernel, rfl, by decide +kernel, by decide +kernel⟩
abbrev s_views : Stmt := topS 45
abbrev n_views : List Str := ["row", "mask", "places", "start"]
abbrev p_views : List Str := ["row", "mask"]
theorem sc_views : FnScope n_views p_views (defScope s_views) := ⟨rfl, rfl, rfl, by decide +kernel, rfl, by decide +kernel, by decide +kernel⟩
abbrev s_all_unlike : Stmt := topS 46
abbrev n_all_unlike : List Str := ["found"]
abbrev p_all_unlike : List Str := ["found"]
theorem sc_all_unlike : FnScope n_all_unlike p_all_unlike (defScope s_all_unlike) := ⟨rfl, rfl, rfl, by decide +kernel, rfl, by decide +kernel, by decide +kernel⟩
abbrev s_tells : Stmt := topS 47
abbrev n_tells : List Str := ["row", "mask"]
abbrev p_tells : List Str := ["row", "mask"]
theorem sc_tells : FnScope n_tells p_tells (defScope s_tells) := ⟨rfl, rfl, rfl, by decide +kernel, rfl, by decide +kernel, by decide +kernel⟩
abbrev s_grouped : Stmt := topS 48
abbrev n_grouped : List Str := ["pairs", "places", "place", "view", "same"]
abbrev p_grouped : List Str := ["pairs"]
theorem sc_grouped : FnScope n_grouped p_grouped (defScope s_grouped) := ⟨rfl, rfl, rfl, by decide +kernel, rfl, by decide +kernel, by decide +kernel⟩
abbrev s_least_pair : Stmt := topS 49
abbrev n_least_pair : List Str := ["pairs", "found"]
abbrev p_least_pair : List Str := ["pairs"]
theorem sc_least_pair : FnScope n_least_pair p_least_pair (defScope s_least_pair) := ⟨rfl, rfl, rfl, by decide +kernel, rfl, by decide +kernel, by decide +kernel⟩
abbrev s_groups : Stmt := topS 50
abbrev n_groups : List Str := ["row", "mask"]
abbrev p_groups : List Str := ["row", "mask"]
theorem sc_groups : FnScope n_groups p_groups (defScope s_groups) := ⟨rfl, rfl, rfl, by decide +kernel, rfl, by decide +kernel, by decide +kernel⟩
abbrev s_alike : Stmt := topS 51
abbrev n_alike : List Str := ["row", "mask"]
abbrev p_alike : List Str := ["row", "mask"]
theorem sc_alike : FnScope n_alike p_alike (defScope s_alike) := ⟨rfl, rfl, rfl, by decide +kernel, rfl, by decide +kernel, by decide +kernel⟩
abbrev s_distance : Stmt := topS 52
abbrev n_distance : List Str := ["row", "mask", "found", "numbers", "at", "one", "other"]
abbrev p_distance : List Str := ["row", "mask"]
theorem sc_distance : FnScope n_distance p_distance (defScope s_distance) := ⟨rfl, rfl, rfl, by decide +kernel, rfl, by decide +kernel, by decide +kernel⟩
abbrev s_stands : Stmt := topS 53
abbrev n_stands : List Str := ["row", "mask", "wrong", "covered", "least"]
abbrev p_stands : List Str := ["row", "mask", "wrong", "covered"]
theorem sc_stands : FnScope n_stands p_stands (defScope s_stands) := ⟨rfl, rfl, rfl, by decide +kernel, rfl, by decide +kernel, by decide +kernel⟩
abbrev s_words : Stmt := topS 55
abbrev n_words : List Str := ["signs", "many", "found", "_", "word", "sign"]
abbrev p_words : List Str := ["signs", "many"]
theorem sc_words : FnScope n_words p_words (defScope s_words) := ⟨rfl, rfl, rfl, by decide +kernel, rfl, by decide +kernel, by decide +kernel⟩
abbrev s_in_common : Stmt := topS 56
abbrev n_in_common : List Str := ["found", "unlike", "signs"]
abbrev p_in_common : List Str := ["found", "unlike"]
abbrev s_near_bits : Stmt := topS 58
abbrev n_near_bits : List Str := ["bits", "view", "far", "other"]
abbrev p_near_bits : List Str := ["bits", "view", "far"]
theorem sc_near_bits : FnScope n_near_bits p_near_bits (defScope s_near_bits) := ⟨rfl, rfl, rfl, by decide +kernel, rfl, by decide +kernel, by decide +kernel⟩
abbrev s_window_bits : Stmt := topS 59
abbrev n_window_bits : List Str := ["mask", "signs", "far", "places", "bits", "barred", "shown", "at", "view", "window"]
abbrev p_window_bits : List Str := ["mask", "signs", "far"]
theorem sc_window_bits : FnScope n_window_bits p_window_bits (defScope s_window_bits) := ⟨rfl, rfl, rfl, by decide +kernel, rfl, by decide +kernel, by decide +kernel⟩
abbrev s_Growth___init__ : Stmt := inClass (topS 60) 0
abbrev n_Growth___init__ : List Str := ["self", "mask", "letters", "far"]
abbrev p_Growth___init__ : List Str := ["self", "mask", "letters", "far"]
theorem sc_Growth___init__ : FnScope n_Growth___init__ p_Growth___init__ (defScope s_Growth___init__) := ⟨rfl, rfl, rfl, by decide +kernel, rfl, by decide +kernel, by decide +kernel⟩
abbrev s_Growth_begun : Stmt := inClass (topS 60) 1
abbrev n_Growth_begun : List Str := ["self", "row", "barred", "start", "_", "near"]
abbrev p_Growth_begun : List Str := ["self", "row"]
theorem sc_Growth_begun : FnScope n_Growth_begun p_Growth_begun (defScope s_Growth_begun) := ⟨rfl, rfl, rfl, by decide +kernel, rfl, by decide +kernel, by decide +kernel⟩
abbrev s_Growth_longer : Stmt := inClass (topS 60) 2
abbrev n_Growth_longer : List Str := ["self", "told", "found", "row", "barred", "sign", "more", "bit", "near"]
abbrev p_Growth_longer : List Str := ["self", "told"]
theorem sc_Growth_longer : FnScope n_Growth_longer p_Growth_longer (defScope s_Growth_longer) := ⟨rfl, rfl, rfl, by decide +kernel, rfl, by decide +kernel, by decide +kernel⟩
abbrev s_told_rows : Stmt := topS 61
abbrev n_told_rows : List Str := ["mask", "letters", "length", "growth", "told", "_", "row"]
abbrev p_told_rows : List Str := ["mask", "letters", "length"]
abbrev s_farthest_rows : Stmt := topS 62
abbrev n_farthest_rows : List Str := ["row", "mask", "letters", "far", "growth", "told", "more", "made", "_"]
abbrev p_farthest_rows : List Str := ["row", "mask", "letters", "far"]
theorem sc_farthest_rows : FnScope n_farthest_rows p_farthest_rows (defScope s_farthest_rows) := ⟨rfl, rfl, rfl, by decide +kernel, rfl, by decide +kernel, by decide +kernel⟩
abbrev s_longest_rows : Stmt := topS 64
abbrev n_longest_rows : List Str := ["mask", "letters"]
abbrev p_longest_rows : List Str := ["mask", "letters"]
theorem sc_longest_rows : FnScope n_longest_rows p_longest_rows (defScope s_longest_rows) := ⟨rfl, rfl, rfl, by decide +kernel, rfl, by decide +kernel, by decide +kernel⟩
abbrev s_longest : Stmt := topS 65
abbrev n_longest : List Str := ["mask", "letters"]
abbrev p_longest : List Str := ["mask", "letters"]
theorem sc_longest : FnScope n_longest p_longest (defScope s_longest) := ⟨rfl, rfl, rfl, by decide +kernel, rfl, by decide +kernel, by decide +kernel⟩
abbrev s_count_rows : Stmt := topS 66
abbrev n_count_rows : List Str := ["mask", "letters", "length"]
abbrev p_count_rows : List Str := ["mask", "letters", "length"]
theorem sc_count_rows : FnScope n_count_rows p_count_rows (defScope s_count_rows) := ⟨rfl, rfl, rfl, by decide +kernel, rfl, by decide +kernel, by decide +kernel⟩
abbrev s_next_letters : Stmt := topS 67
abbrev n_next_letters : List Str := ["row", "mask", "letters", "signs", "found", "places", "start", "sign"]
abbrev p_next_letters : List Str := ["row", "mask", "letters"]
theorem sc_next_letters : FnScope n_next_letters p_next_letters (defScope s_next_letters) := ⟨rfl, rfl, rfl, by decide +kernel, rfl, by decide +kernel, by decide +kernel⟩
abbrev s_farthest : Stmt := topS 68
abbrev n_farthest : List Str := ["row", "mask", "letters"]
abbrev p_farthest : List Str := ["row", "mask", "letters"]
theorem sc_farthest : FnScope n_farthest p_farthest (defScope s_farthest) := ⟨rfl, rfl, rfl, by decide +kernel, rfl, by decide +kernel, by decide +kernel⟩
abbrev s_masks_of : Stmt := topS 71
abbrev n_masks_of : List Str := ["width", "inner"]
abbrev p_masks_of : List Str := ["width"]
theorem sc_masks_of : FnScope n_masks_of p_masks_of (defScope s_masks_of) := ⟨rfl, rfl, rfl, by decide +kernel, rfl, by decide +kernel, by decide +kernel⟩
abbrev s_masks_to : Stmt := topS 72
abbrev n_masks_to : List Str := ["width", "narrow", "mask"]
abbrev p_masks_to : List Str := ["width"]
theorem sc_masks_to : FnScope n_masks_to p_masks_to (defScope s_masks_to) := ⟨rfl, rfl, rfl, by decide +kernel, rfl, by decide +kernel, by decide +kernel⟩
abbrev s_best_masks : Stmt := topS 73
abbrev n_best_masks : List Str := ["many", "width", "letters", "lengths", "best", "mask"]
abbrev p_best_masks : List Str := ["many", "width", "letters"]
theorem sc_best_masks : FnScope n_best_masks p_best_masks (defScope s_best_masks) := ⟨rfl, rfl, rfl, by decide +kernel, rfl, by decide +kernel, by decide +kernel⟩
abbrev s_least_masks : Stmt := topS 74
abbrev n_least_masks : List Str := ["row", "width", "told", "fewest", "mask"]
abbrev p_least_masks : List Str := ["row", "width"]
theorem sc_least_masks : FnScope n_least_masks p_least_masks (defScope s_least_masks) := ⟨rfl, rfl, rfl, by decide +kernel, rfl, by decide +kernel, by decide +kernel⟩
abbrev s_fits : Stmt := topS 76
abbrev n_fits : List Str := ["view", "told"]
abbrev p_fits : List Str := ["view", "told"]
abbrev s_near : Stmt := topS 77
abbrev n_near : List Str := ["row", "mask", "told", "wrong", "found", "place", "view"]
abbrev p_near : List Str := ["row", "mask", "told", "wrong"]
theorem sc_near : FnScope n_near p_near (defScope s_near) := ⟨rfl, rfl, rfl, by decide +kernel, rfl, by decide +kernel, by decide +kernel⟩
abbrev s_find : Stmt := topS 78
abbrev n_find : List Str := ["row", "mask", "told"]
abbrev p_find : List Str := ["row", "mask", "told"]
theorem sc_find : FnScope n_find p_find (defScope s_find) := ⟨rfl, rfl, rfl, by decide +kernel, rfl, by decide +kernel, by decide +kernel⟩
abbrev s_first_places : Stmt := topS 79
abbrev n_first_places : List Str := ["many", "offsets", "first", "offset"]
abbrev p_first_places : List Str := ["many", "offsets"]
abbrev s_starts_of : Stmt := topS 80
abbrev n_starts_of : List Str := ["found", "looks", "offsets", "first", "offset", "told"]
abbrev p_starts_of : List Str := ["found", "looks", "offsets"]
abbrev s_runs_at : Stmt := topS 81
abbrev n_runs_at : List Str := ["found", "offsets", "first", "offset"]
abbrev p_runs_at : List Str := ["found", "offsets"]
abbrev s_looks_needed : Stmt := topS 82
abbrev n_looks_needed : List Str := ["found", "step", "many", "runs", "at"]
abbrev p_looks_needed : List Str := ["found", "step"]
theorem sc_looks_needed : FnScope n_looks_needed p_looks_needed (defScope s_looks_needed) := ⟨rfl, rfl, rfl, by decide +kernel, rfl, by decide +kernel, by decide +kernel⟩
abbrev s_steps_needed : Stmt := topS 83
abbrev n_steps_needed : List Str := ["row", "mask"]
abbrev p_steps_needed : List Str := ["row", "mask"]
theorem sc_steps_needed : FnScope n_steps_needed p_steps_needed (defScope s_steps_needed) := ⟨rfl, rfl, rfl, by decide +kernel, rfl, by decide +kernel, by decide +kernel⟩
abbrev s_laid_on : Stmt := topS 86
abbrev n_laid_on : List Str := ["signs", "look", "places", "start", "known", "sign", "place", "at"]
abbrev p_laid_on : List Str := ["signs", "look", "places", "start"]
abbrev s_unknown_row : Stmt := topS 87
abbrev n_unknown_row : List Str := ["mask", "views"]
abbrev p_unknown_row : List Str := ["mask", "views"]
abbrev s_put_in_order : Stmt := topS 88
abbrev n_put_in_order : List Str := ["mask", "views", "places", "row", "start", "look"]
abbrev p_put_in_order : List Str := ["mask", "views"]
theorem sc_put_in_order : FnScope n_put_in_order p_put_in_order (defScope s_put_in_order) := ⟨rfl, rfl, rfl, by decide +kernel, rfl, by decide +kernel, by decide +kernel⟩
abbrev s_joined : Stmt := topS 89
abbrev n_joined : List Str := ["mask", "views", "row", "_"]
abbrev p_joined : List Str := ["mask", "views"]
theorem sc_joined : FnScope n_joined p_joined (defScope s_joined) := ⟨rfl, rfl, rfl, by decide +kernel, rfl, by decide +kernel, by decide +kernel⟩
abbrev s_first_clash : Stmt := topS 90
abbrev n_first_clash : List Str := ["mask", "views", "_", "clash"]
abbrev p_first_clash : List Str := ["mask", "views"]
theorem sc_first_clash : FnScope n_first_clash p_first_clash (defScope s_first_clash) := ⟨rfl, rfl, rfl, by decide +kernel, rfl, by decide +kernel, by decide +kernel⟩
abbrev s_with_each_look : Stmt := topS 91
abbrev n_with_each_look : List Str := ["partial", "places", "start", "found", "row", "left", "at", "look", "more"]
abbrev p_with_each_look : List Str := ["partial", "places", "start"]
abbrev s_rows_from : Stmt := topS 92
abbrev n_rows_from : List Str := ["mask", "views", "places", "partial", "start", "row", "_"]
abbrev p_rows_from : List Str := ["mask", "views"]
theorem sc_rows_from : FnScope n_rows_from p_rows_from (defScope s_rows_from) := ⟨rfl, rfl, rfl, by decide +kernel, rfl, by decide +kernel, by decide +kernel⟩
abbrev s_sure_from : Stmt := topS 93
abbrev n_sure_from : List Str := ["mask", "views", "rows"]
abbrev p_sure_from : List Str := ["mask", "views"]
theorem sc_sure_from : FnScope n_sure_from p_sure_from (defScope s_sure_from) := ⟨rfl, rfl, rfl, by decide +kernel, rfl, by decide +kernel, by decide +kernel⟩
abbrev s_told_near : Stmt := topS 96
abbrev n_told_near : List Str := ["row", "mask", "signs", "changes", "made", "_", "longer", "begun", "sign"]
abbrev p_told_near : List Str := ["row", "mask", "signs", "changes"]
abbrev s_mend : Stmt := topS 97
abbrev n_mend : List Str := ["row", "mask", "letters", "changes", "made"]
abbrev p_mend : List Str := ["row", "mask", "letters"]
theorem sc_mend : FnScope n_mend p_mend (defScope s_mend) := ⟨rfl, rfl, rfl, by decide +kernel, rfl, by decide +kernel, by decide +kernel⟩
abbrev s_weak_letters : Stmt := topS 98
abbrev n_weak_letters : List Str := ["row", "mask", "letters", "place", "sign"]
abbrev p_weak_letters : List Str := ["row", "mask", "letters"]
theorem sc_weak_letters : FnScope n_weak_letters p_weak_letters (defScope s_weak_letters) := ⟨rfl, rfl, rfl, by decide +kernel, rfl, by decide +kernel, by decide +kernel⟩
abbrev s_ring_view : Stmt := topS 100
abbrev n_ring_view : List Str := ["row", "places", "start", "place"]
abbrev p_ring_view : List Str := ["row", "places", "start"]
abbrev s_ring_views : Stmt := topS 101
abbrev n_ring_views : List Str := ["row", "mask", "places", "start"]
abbrev p_ring_views : List Str := ["row", "mask"]
theorem sc_ring_views : FnScope n_ring_views p_ring_views (defScope s_ring_views) := ⟨rfl, rfl, rfl, by decide +kernel, rfl, by decide +kernel, by decide +kernel⟩
abbrev s_ring_tells : Stmt := topS 102
abbrev n_ring_tells : List Str := ["row", "mask"]
abbrev p_ring_tells : List Str := ["row", "mask"]
theorem sc_ring_tells : FnScope n_ring_tells p_ring_tells (defScope s_ring_tells) := ⟨rfl, rfl, rfl, by decide +kernel, rfl, by decide +kernel, by decide +kernel⟩
abbrev s_count_views : Stmt := topS 103
abbrev n_count_views : List Str := ["mask", "letters"]
abbrev p_count_views : List Str := ["mask", "letters"]
abbrev s_is_least : Stmt := topS 104
abbrev n_is_least : List Str := ["row", "start"]
abbrev p_is_least : List Str := ["row"]
abbrev s_longest_ring : Stmt := topS 105
abbrev n_longest_ring : List Str := ["mask", "letters", "length", "row"]
abbrev p_longest_ring : List Str := ["mask", "letters"]
theorem sc_longest_ring : FnScope n_longest_ring p_longest_ring (defScope s_longest_ring) := ⟨rfl, rfl, rfl, by decide +kernel, rfl, by decide +kernel, by decide +kernel⟩
abbrev s_full_rings : Stmt := topS 106
abbrev n_full_rings : List Str := ["mask", "letters", "rows", "row"]
abbrev p_full_rings : List Str := ["mask", "letters"]
theorem sc_full_rings : FnScope n_full_rings p_full_rings (defScope s_full_rings) := ⟨rfl, rfl, rfl, by decide +kernel, rfl, by decide +kernel, by decide +kernel⟩
abbrev s_write : Stmt := topS 108
abbrev n_write : List Str := ["mask", "row"]
abbrev p_write : List Str := ["mask", "row"]
theorem sc_write : FnScope n_write p_write (defScope s_write) := ⟨rfl, rfl, rfl, by decide +kernel, rfl, by decide +kernel, by decide +kernel⟩
abbrev s_Tracker___init__ : Stmt := inClass (topS 110) 0
abbrev n_Tracker___init__ : List Str := ["self", "row", "mask"]
abbrev p_Tracker___init__ : List Str := ["self", "row", "mask"]
theorem sc_Tracker___init__ : FnScope n_Tracker___init__ p_Tracker___init__ (defScope s_Tracker___init__) := ⟨rfl, rfl, rfl, by decide +kernel, rfl, by decide +kernel, by decide +kernel⟩
abbrev s_Tracker_row : Stmt := inClass (topS 110) 1
abbrev n_Tracker_row : List Str := ["self"]
abbrev p_Tracker_row : List Str := ["self"]
abbrev s_Tracker_mask : Stmt := inClass (topS 110) 2
abbrev n_Tracker_mask : List Str := ["self"]
abbrev p_Tracker_mask : List Str := ["self"]
abbrev s_Tracker_seen : Stmt := inClass (topS 110) 3
abbrev n_Tracker_seen : List Str := ["self"]
abbrev p_Tracker_seen : List Str := ["self"]
abbrev s_Tracker_see : Stmt := inClass (topS 110) 4
abbrev n_Tracker_see : List Str := ["self", "view"]
abbrev p_Tracker_see : List Str := ["self", "view"]
abbrev s_Tracker_starts : Stmt := inClass (topS 110) 5
abbrev n_Tracker_starts : List Str := ["self"]
abbrev p_Tracker_starts : List Str := ["self"]
abbrev s_Tracker_places : Stmt := inClass (topS 110) 6
abbrev n_Tracker_places : List Str := ["self", "gone", "start"]
abbrev p_Tracker_places : List Str := ["self"]
abbrev s_Tracker_undo : Stmt := inClass (topS 110) 7
abbrev n_Tracker_undo : List Str := ["self"]
abbrev p_Tracker_undo : List Str := ["self"]
abbrev s_Tracker_copy : Stmt := inClass (topS 110) 8
abbrev n_Tracker_copy : List Str := ["self"]
abbrev p_Tracker_copy : List Str := ["self"]
abbrev s_Tracker___len__ : Stmt := inClass (topS 110) 9
abbrev n_Tracker___len__ : List Str := ["self"]
abbrev p_Tracker___len__ : List Str := ["self"]
abbrev s__law_taken : Stmt := topS 112
abbrev n__law_taken : List Str := ["_law_row", "_law_many", "_law_found", "_law_cell"]
abbrev p__law_taken : List Str := ["_law_row", "_law_many"]
theorem sc__law_taken : FnScope n__law_taken p__law_taken (defScope s__law_taken) := ⟨rfl, rfl, rfl, by decide +kernel, rfl, by decide +kernel, by decide +kernel⟩
abbrev s__law_odd_mask : Stmt := topS 113
abbrev n__law_odd_mask : List Str := ["_law_row", "_law_odd"]
abbrev p__law_odd_mask : List Str := ["_law_row"]
theorem sc__law_odd_mask : FnScope n__law_odd_mask p__law_odd_mask (defScope s__law_odd_mask) := ⟨rfl, rfl, rfl, by decide +kernel, rfl, by decide +kernel, by decide +kernel⟩
abbrev s__law_odd_row : Stmt := topS 114
abbrev n__law_odd_row : List Str := ["_law_row", "_law_odd"]
abbrev p__law_odd_row : List Str := ["_law_row"]
theorem sc__law_odd_row : FnScope n__law_odd_row p__law_odd_row (defScope s__law_odd_row) := ⟨rfl, rfl, rfl, by decide +kernel, rfl, by decide +kernel, by decide +kernel⟩
abbrev s__law_masked : Stmt := topS 115
abbrev n__law_masked : List Str := ["_law_kind", "_law_value", "_law_some"]
abbrev p__law_masked : List Str := ["_law_kind", "_law_value"]
theorem sc__law_masked : FnScope n__law_masked p__law_masked (defScope s__law_masked) := ⟨rfl, rfl, rfl, by decide +kernel, rfl, by decide +kernel, by decide +kernel⟩
abbrev s__law_rowed : Stmt := topS 116
abbrev n__law_rowed : List Str := ["_law_kind", "_law_value", "_law_some"]
abbrev p__law_rowed : List Str := ["_law_kind", "_law_value"]
theorem sc__law_rowed : FnScope n__law_rowed p__law_rowed (defScope s__law_rowed) := ⟨rfl, rfl, rfl, by decide +kernel, rfl, by decide +kernel, by decide +kernel⟩
abbrev s__law_told : Stmt := topS 117
abbrev n__law_told : List Str := ["_law_kind", "_law_value", "_law_found"]
abbrev p__law_told : List Str := ["_law_kind", "_law_value"]
theorem sc__law_told : FnScope n__law_told p__law_told (defScope s__law_told) := ⟨rfl, rfl, rfl, by decide +kernel, rfl, by decide +kernel, by decide +kernel⟩
abbrev s_law : Stmt := topS 118
abbrev n_law : List Str := ["_law_script", "_law_row", "_law_turn"]
abbrev p_law : List Str := ["_law_script"]
theorem sc_law : FnScope n_law p_law (defScope s_law) := ⟨rfl, rfl, rfl, by decide +kernel, rfl, by decide +kernel, by decide +kernel⟩
structure Top (K : PySem.W.Frag) (mg : Str → Option Value) (CM CR CV CG fG CK fK a_SMALL_WIDTH a_SMALL_SEEN : Addr) : Prop where
  m_isinstance : mg "isinstance" = none
  m_str : mg "str" = none
  m_int : mg "int" = none
  m_bool : mg "bool" = none
  m_list : mg "list" = none
  m_tuple : mg "tuple" = none
  m_dict : mg "dict" = none
  m_all : mg "all" = none
  m_len : mg "len" = none
  m_enumerate : mg "enumerate" = none
  m_range : mg "range" = none
  m_reversed : mg "reversed" = none
  m_zip : mg "zip" = none
  m_set : mg "set" = none
  m_min : mg "min" = none
  m_max : mg "max" = none
  m_sorted : mg "sorted" = none
  m_sum : mg "sum" = none
  g_LETTERS : ∃ t, mg "LETTERS" = some (.str (PySem.Str.ofString "abcd") t)
  g_UNREAD : ∃ t, mg "UNREAD" = some (.str (PySem.Str.ofString "?") t)
  g_WIDEST : ∃ t, mg "WIDEST" = some (.int 12 t)
  g_LONGEST : ∃ t, mg "LONGEST" = some (.int 60 t)
  g_MOST_LOOKS : ∃ t, mg "MOST_LOOKS" = some (.int 60 t)
  g_WIDEST_FOR_A_ROW : ∃ t, mg "WIDEST_FOR_A_ROW" = some (.int 9 t)
  g_MOST_IN_ANY_ORDER : ∃ t, mg "MOST_IN_ANY_ORDER" = some (.int 7 t)
  g_LONGEST_TO_MEND : ∃ t, mg "LONGEST_TO_MEND" = some (.int 8 t)
  g_SMALL_WIDTH : mg "SMALL_WIDTH" = some (.ref a_SMALL_WIDTH) ∧ TabI K a_SMALL_WIDTH [(1, 12), (2, 8), (3, 5), (4, 4)]
  g_SMALL_SEEN : mg "SMALL_SEEN" = some (.ref a_SMALL_SEEN) ∧ TabI K a_SMALL_SEEN [(1, 12), (2, 4), (3, 2), (4, 1)]
  c_Growth : OwnC K mg "Growth" CG fG ["signs", "width", "bits"]
  t_Growth_init : ∃ fd, Fun K "__init__" "Growth.__init__" s_Growth___init__ fG fd ∧ Binds K fd p_Growth___init__ []
  t_Growth_begun : MethC K CG "begun" "Growth.begun" s_Growth_begun p_Growth_begun
  t_Growth_longer : MethC K CG "longer" "Growth.longer" s_Growth_longer p_Growth_longer
  c_Tracker : OwnC K mg "Tracker" CK fK ["_found", "_row", "_mask", "_looks"]
  t_Tracker_init : ∃ fd, Fun K "__init__" "Tracker.__init__" s_Tracker___init__ fK fd ∧ Binds K fd p_Tracker___init__ []
  e_BadMask : ExcC K mg "BadMask" CM
  e_BadRow : ExcC K mg "BadRow" CR
  e_BadView : ExcC K mg "BadView" CV
  q_CM_CM : PySem.W.exmOne K (.ref CM) (.ref CM) = some true
  q_CR_CM : PySem.W.exmOne K (.ref CR) (.ref CM) = some false
  q_CR_CR : PySem.W.exmOne K (.ref CR) (.ref CR) = some true
end K01
namespace K01
open PySem PySem.Spec PyProof.Rows L2 Evl Qt
def isStr : V → Bool
  | .str _ => true
  | _ => false
def madeOf (v : V) (z : Str) : Bool := match v with
  | .str m => m.cps.toList.all fun c => decide (c ∈ z.cps.toList)
  | _ => false
def spMade (K : PySem.W.Frag) : Sp := fun vs H Q _ => ∃ (v : V) (z : Str) (t : String), vs = [v, .str z] ∧ Kind K H v t ∧ kitB t "str" = some (isStr v) ∧ (∀ m, v = .str m → m.length ≤ 1000) ∧ RetV (.bl (madeOf v z)) H Q
section
variable {P : Program} {w : World} {K : PySem.W.Frag} {mg : Str → Option Value} {base : Heap} {CM CR CV CG fG CK fK a_SMALL_WIDTH a_SMALL_SEEN : Addr}
theorem ok_made_of (e : Ent K mg "made_of" s_made_of p_made_of) (T : Top K mg CM CR CV CG fG CK fK a_SMALL_WIDTH a_SMALL_SEEN) : Cal P w K mg base CX0 1 "made_of" p_made_of (spMade K) := by
  obtain ⟨f, fd, F, m_, b_⟩ := e
  refine ⟨f, fd, F.ok sc_made_of (fun vs H Q E h => ?_) (fun cdv A outer s H vs Q E hr h => ?_), m_, F.kp, b_⟩
  · obtain ⟨v, z, t, rfl, _⟩ := h
    rfl
  · obtain ⟨v, z, t, rfl, hk, hb, hl, q⟩ := h
    refine ⟨_, (pss_one (ps_ret (pe_and (pe_callB call_isi (by rfl) T.m_isinstance (by decide +kernel) (pa_cons (pv 0) (pa_cons (pe_bltn (v := .ty "str") (by rfl) T.m_str (by decide +kernel) rfl) pa_nil))) (pe_one (pe_callB (cr_all rfl) (by rfl) T.m_all (by decide +kernel) (pa_cons (pe_lc (own := [("sign", 2)]) (g := gName 2) (by rfl) sc_made_of.nd (pi_str (pv 0)) (blkOk_by (own := [("sign", 2)]) (N := n_made_of) (sc := (defScope s_made_of)) (by decide +kernel)) (fun _ _ _ _ _ => pg_name (i := 2) sc_made_of.nd rfl (Or.inl rfl)) (fun _ _ _ _ _ => pts_nil) (fun _ _ _ _ _ => (pe_cmpR op_in_sign (pv 2) (pv 1) (by rfl)))) pa_nil)))))), ?_⟩
    refine ⟨v, rfl, v, .ty "str", .type t, .type "str", isStr v, rfl, .ty "str", hk, kit_ty hb, _, rfl, ?_⟩
    cases v with
    | str m =>
      refine iteT ?_
      have hm := hl m rfl
      have L : EvL (tLc (iStr (tVar 0)) (gName 2) tYes (tOp (fun x y H Q => ∃ (c : Nat) (z : Str), x = .str ⟨#[c]⟩ ∧ y = .str z ∧ Q (.bl (decide (c ∈ z.cps.toList))) H) (tVar 2) (tVar 1)) [2])
          (start n_made_of [V.str m, V.str z]) H (given m.length (fun _ => true) fun i => .bl (decide (m.cps.toList.getD i 0 ∈ z.cps.toList))) :=
        el_lcS (z := m) (fun _ => true) _ (ev_var rfl) (by omega) (fun _ => rfl) (fun _ _ _ _ => et_yes) (fun i H1 _ hi _ => ev_inSign (ev_var rfl) (ev_var rfl))
      rw [given_all] at L
      have e := Qt.all_range m.cps.toList fun c => decide (c ∈ z.cps.toList)
      rw [show m.cps.toList.length = m.length from by simp [Str.length]] at e
      refine (ev_cbL L fun p H1 h1 _ => ?_ : Ev _ _ H (.bl (madeOf (.str m) z))) H (Ex.refl H) _ q
      show RC _ _ _ (.bl (m.cps.toList.all fun c => decide (c ∈ z.cps.toList)))
      rw [← e]
      refine rc_all ?_
      rw [h1, List.map_map]
      rfl
    | _ => exact iteF (q H (Ex.refl H))
end
end K01
namespace K01
open PySem PySem.Spec PyProof.Rows L2 Evl Qt
theorem ev_chain {σ : L2.St} {H : Hp} {ta tb tc : TE} {r r' : R2} {x y z : V} {k1 k2 : Bool} (ha : Ev ta σ H x) (hb : Ev tb σ H y) (hr : RV r x y H (.bl k1)) (hc : Ev tc σ H z) (hr' : k1 = true → RV r' y z H (.bl k2)) :
    Ev (tChain r r' ta tb tc) σ H (.bl (k1 && k2)) := fun H1 e Q q =>
  ha H1 e _ fun H2 e2 => hb H2 (e.trans e2) _ fun H3 e3 => hr H3 ((e.trans e2).trans e3) _ fun H4 e4 => ⟨k1, rfl, by
    cases k1 with
    | true => exact iteT (hc H4 (((e.trans e2).trans e3).trans e4) _ fun H5 e5 => hr' rfl H5 ((((e.trans e2).trans e3).trans e4).trans e5) _ fun H6 e6 => q H6 ((((e2.trans e3).trans e4).trans e5).trans e6))
    | false => exact iteF (q H4 ((e2.trans e3).trans e4))⟩
def VOk (K : PySem.W.Frag) (H : Hp) (v : V) : Prop := ∃ t, Qt.Kind K H v t ∧ kitB t "str" = some (isStr v) ∧ ∀ m, v = .str m → m.length ≤ 1000
theorem VOk.ex {K : PySem.W.Frag} {H H1 : Hp} {v : V} (h : VOk K H v) (e : Ex H H1) : VOk K H1 v := by
  obtain ⟨t, h1, h2, h3⟩ := h
  exact ⟨t, h1.ex e, h2, h3⟩
theorem VOk.str {K : PySem.W.Frag} {H : Hp} {m : Str} (h : m.length ≤ 1000) : VOk K H (.str m) := ⟨"str", .base (.str m), (by decide +kernel : kitB "str" "str" = some true), fun x e => by cases e; exact h⟩
def sx : Str := PySem.Str.ofString "x."
theorem sx_l : sx.cps.toList = [120, 46] := by decide +kernel
theorem x_eq : PySem.Str.ofString "x" = ⟨#[120]⟩ := by decide +kernel
def lenOf : V → Int
  | .str m => (m.length : Int)
  | _ => 0
def fst (m : Str) : Nat := m.cps.toList.getD 0 0
def lst (m : Str) : Nat := m.cps.toList.getD (m.length - 1) 0
def isMask (m : Str) : Bool := !((!madeOf (.str m) sx || !(decide ((1 : Int) ≤ (m.length : Int)) && decide ((m.length : Int) ≤ 12)))) && !(!decide (fst m = 120) || !decide (lst m = 120))
theorem at_last (l : List Nat) (h : l ≠ []) : atI l (-1) = some (l.getD (l.length - 1) 0) := by
  have h0 : 0 < l.length := List.length_pos_iff.mpr h
  unfold atI ixN
  rw [if_neg (by decide), if_pos (by omega)]
  have e : ((-1 : Int) + (l.length : Int)).toNat = l.length - 1 := by omega
  rw [e, Option.bind_some, List.getD_eq_getElem?_getD, List.getElem?_eq_getElem (by omega)]
  rfl
def isMaskV : V → Bool
  | .str m => isMask m
  | _ => false
def spCheckMask (K : PySem.W.Frag) (CM : Addr) : Sp := fun vs H Q E => ∃ v, vs = [v] ∧ VOk K H v ∧ (isMaskV v = true → RetV .non H Q) ∧ (isMaskV v = false → ∀ H', Ex H H' → E (.ref CM) none H')
section
variable {P : Program} {w : World} {K : PySem.W.Frag} {mg : Str → Option Value} {base : Heap} {CM CR CV CG fG CK fK a_SMALL_WIDTH a_SMALL_SEEN : Addr}
theorem made_val {H : Hp} {v : V} {z : Str} (h : VOk K H v) : SpV (spMade K) ([v, .str z] ++ []) H (.bl (madeOf v z)) := fun H1 e Q q E => by
  obtain ⟨t, h1, h2, h3⟩ := h.ex e
  exact ⟨v, z, t, rfl, h1, h2, h3, q⟩
def spIsMask (K : PySem.W.Frag) : Sp := fun vs H Q _ => ∃ v, vs = [v] ∧ VOk K H v ∧ RetV (.bl (isMaskV v)) H Q
theorem rv_chrE {H : Hp} {c : Nat} {d : Str} (hd : d = ⟨#[120]⟩) : RV rEq (.str ⟨#[c]⟩) (.str d) H (.bl (decide (c = 120))) := by
  subst hd
  have e : decide (V.str (⟨#[c]⟩ : Str) = V.str ⟨#[120]⟩) = decide (c = 120) := by
    by_cases h : c = 120
    · subst h; simp
    · simp [h]
  rw [← e]
  exact rv_eq rfl
theorem ok_is_mask (e : Ent K mg "is_mask" s_is_mask p_is_mask) (T : Top K mg CM CR CV CG fG CK fK a_SMALL_WIDTH a_SMALL_SEEN) (c1 : Cal P w K mg base CX0 1 "made_of" p_made_of (spMade K)) : Cal P w K mg base CX0 2 "is_mask" p_is_mask (spIsMask K) := by
  obtain ⟨f, fd, F, m_, b_⟩ := e
  obtain ⟨f_made_of, fd_made_of, G_made_of, m_made_of, k_made_of, b_made_of⟩ := c1
  refine ⟨f, fd, F.ok sc_is_mask (fun vs H Q E h => ?_) (fun cdv A outer s H vs Q E hr h => ?_), m_, F.kp, b_⟩
  · obtain ⟨v, rfl, _⟩ := h
    rfl
  · obtain ⟨v, rfl, hv, q⟩ := h
    refine ⟨_, (pss_cons (ps_if (PW.pt (pw_or (pt_not (pt_val (pe_call G_made_of (hr.mono (by decide)) (by rfl) m_made_of k_made_of b_made_of .nil pass0 (pa_cons (pv 0) (pa_cons pe_str pa_nil))))) (pw_or1 (pt_not (pt_chain op_le op_le pe_int (pe_callB call_len_str (by rfl) T.m_len (by decide +kernel) (pa_cons (pv 0) pa_nil)) (pe_glob (v := .int 12) (by rfl) T.g_WIDEST.choose_spec ⟨_, rfl⟩)))))) (pss_one (ps_ret pe_bl)) pss_nil)
      (pss_one (ps_ret (pe_and (pe_cmpR op_eq (pe_ix ix_str (pv 0) pe_int (fun _ _ => rfl)) pe_str (nomark _)) (pe_one (pe_cmpR op_eq (pe_ix ix_str (pv 0) (pe_un un_neg pe_int) (fun _ _ => rfl)) pe_str (nomark _))))))), ?_⟩
    have t1 : Ev (tCall (spMade K) [] E0 (tCons (tVar 0) (tCons (tC (.str sx)) tNil))) (start n_is_mask [v]) H (.bl (madeOf v sx)) := ev_call (ea_cons (ev_var rfl) (ea_cons ev_c ea_nil)) (made_val hv)
    refine q_when (b := !madeOf v sx || !(decide ((1 : Int) ≤ lenOf v) && decide (lenOf v ≤ 12))) (et_or (et_not (et_B t1)) fun h => et_not (et_test (ev_chain ev_c (y := .int (lenOf v)) ?_ rv_I0 ev_c fun _ => rv_I0))) (fun h H1 e1 => ?_) (fun h H1 e1 => ?_)
    · cases v with
      | str m =>
        obtain ⟨t, _, _, h3⟩ := hv
        exact ev_cb (ea_cons (ev_var rfl) ea_nil) fun H2 _ _ q => ⟨m, rfl, by have := h3 m rfl; rw [sizeLine_eq]; omega, q H2 (Ex.refl H2)⟩
      | _ => exact Bool.noConfusion (show true = false from h)
    · have hf : isMaskV v = false := by
        cases v with
        | str m =>
          have h' : (!madeOf (.str m) sx || !(decide ((1 : Int) ≤ (m.length : Int)) && decide ((m.length : Int) ≤ 12))) = true := h
          show isMask m = false
          unfold isMask
          rw [h']
          rfl
        | _ => rfl
      refine s_ret ev_c fun H2 e2 => ?_
      have z := q H2 (e1.trans e2)
      rw [hf] at z
      exact z
    · cases v with
      | str m =>
        have h' : (!madeOf (.str m) sx || !(decide ((1 : Int) ≤ (m.length : Int)) && decide ((m.length : Int) ≤ 12))) = false := h
        have hl : 1 ≤ m.length ∧ m.length ≤ 12 := by
          simp only [Bool.or_eq_false_iff, Bool.not_eq_false', Bool.and_eq_true, decide_eq_true_eq] at h'
          omega
        have hln : m.cps.toList.length = m.length := by simp [Str.length]
        have hne : m.cps.toList ≠ [] := fun z => by
          rw [z] at hln
          simp at hln
          omega
        have a0 : atI m.cps.toList ((0 : Nat) : Int) = some (fst m) := by
          refine atI_nat ?_
          unfold fst
          rw [List.getD_eq_getElem?_getD, List.getElem?_eq_getElem (by omega)]
          rfl
        have a1 : atI m.cps.toList (-1) = some (lst m) := by
          have z := at_last m.cps.toList hne
          rw [hln] at z
          exact z
        have hs : m.length ≤ 100000 := by omega
        have key : isMask m = (decide (fst m = 120) && decide (lst m = 120)) := by
          unfold isMask
          rw [h']
          simp
        refine s_ret (v := .bl (isMaskV (.str m))) (ev_is (ev_andV (ev_op (ev_op (ev_var rfl) ev_c (rv_ixS hs a0)) ev_c (rv_chrE x_eq))
          fun _ => ev_op (ev_op (ev_var rfl) (ev_un ev_c ru_neg) (rv_ixS hs a1)) ev_c (rv_chrE x_eq)) ?_) fun H2 e2 => q H2 (e1.trans e2)
        show V.bl _ = V.bl (isMask m)
        rw [key]
      | _ => exact Bool.noConfusion (show true = false from h)
theorem ok_check_mask (e : Ent K mg "check_mask" s_check_mask p_check_mask) (T : Top K mg CM CR CV CG fG CK fK a_SMALL_WIDTH a_SMALL_SEEN) (c1 : Cal P w K mg base CX0 2 "is_mask" p_is_mask (spIsMask K)) : Cal P w K mg base (L2.CX P w) 3 "check_mask" p_check_mask (spCheckMask K CM) := by
  obtain ⟨f, fd, F, m_, b_⟩ := e
  obtain ⟨f_is_mask, fd_is_mask, G_is_mask, m_is_mask, k_is_mask, b_is_mask⟩ := c1
  refine ⟨f, fd, F.okX sc_check_mask (fun vs H Q E h => ?_) (fun cdv A outer s H vs Q E hr h => ?_), m_, F.kp, b_⟩
  · obtain ⟨v, rfl, _⟩ := h
    rfl
  · obtain ⟨v, rfl, hv, q1, q2⟩ := h
    refine ⟨_, (pss_one (ps_if (pt_not (pt_val (pe_call G_is_mask (hr.mono (by decide)) (by rfl) m_is_mask k_is_mask b_is_mask .nil pass0 (pa_cons (pv 0) pa_nil)))) (pss_one (ps_raise rfl (takes_of rfl rfl rfl rfl) (pmk_own PySem.F.excBase_ValueError T.e_BadMask.x T.e_BadMask.g T.e_BadMask.k (raises_own T.e_BadMask.b T.e_BadMask.t) (by rfl)))) pss_nil)), ?_⟩
    exact s_when (b := !isMaskV v) (et_not (et_B (ev_call (ea_cons (ev_var rfl) ea_nil) fun H1 e1 Q q E => ⟨v, rfl, hv.ex e1, q⟩))) (fun h H1 e1 => q2 (by simpa using h) H1 e1) (fun h H1 e1 => q1 (by simpa using h) H1 e1)
end
end K01
namespace K01
open PySem PySem.Spec PyProof.Rows L2 Evl Qt
def isI : V → Bool
  | .int _ => true
  | .bl _ => true
  | _ => false
def isB : V → Bool
  | .bl _ => true
  | _ => false
def NOk (K : PySem.W.Frag) (H : Hp) (v : V) : Prop := ∃ t, Qt.Kind K H v t ∧ kitB t "int" = some (isI v) ∧ kitB t "bool" = some (isB v)
def isNum (lo hi : Int) : V → Bool
  | .int i => decide (lo ≤ i) && decide (i ≤ hi)
  | _ => false
theorem rc_isi {K : PySem.W.Frag} {H : Hp} {v : V} {t T : String} {b : Bool} (k : Qt.Kind K H v t) (hb : kitB t T = some b) : RC (rIsi K) [v, .ty T] H (.bl b) := fun H1 e Q q =>
  ⟨v, .ty T, .type t, .type T, b, rfl, .ty T, k.ex e, kit_ty hb, q H1 (Ex.refl H1)⟩
def spLetters : Sp := fun vs H Q _ => ∃ n : Nat, vs = [.int (n : Int)] ∧ 1 ≤ n ∧ n ≤ 4 ∧ RetV .non H Q
def spLettersX (K : PySem.W.Frag) (CLt : Addr) : Sp := fun vs H Q E => ∃ v, vs = [v] ∧ NOk K H v ∧ (isNum 1 4 v = true → RetV .non H Q) ∧ (isNum 1 4 v = false → ∀ H', Ex H H' → E (.ref CLt) none H')
def spNumC : Sp := fun vs H Q _ => ∃ (v lo hi : Int), vs = [.int v, .int lo, .int hi] ∧ lo ≤ v ∧ v ≤ hi ∧ RetV .non H Q
section
variable {P : Program} {w : World} {K : PySem.W.Frag} {mg : Str → Option Value} {base : Heap} {CM CR CV CG fG CK fK a_SMALL_WIDTH a_SMALL_SEEN : Addr}
def spIsNumber (K : PySem.W.Frag) : Sp := fun vs H Q _ => ∃ v lo hi, vs = [v, .int lo, .int hi] ∧ NOk K H v ∧ RetV (.bl (isNum lo hi v)) H Q
theorem ok_is_number (e : Ent K mg "is_number" s_is_number p_is_number) (T : Top K mg CM CR CV CG fG CK fK a_SMALL_WIDTH a_SMALL_SEEN) : Cal P w K mg base CX0 1 "is_number" p_is_number (spIsNumber K) := by
  obtain ⟨f, fd, F, m_, b_⟩ := e
  refine ⟨f, fd, F.ok sc_is_number (fun vs H Q E h => ?_) (fun cdv A outer s H vs Q E hr h => ?_), m_, F.kp, b_⟩
  · obtain ⟨v, lo, hi, rfl, _⟩ := h
    rfl
  · obtain ⟨v, lo, hi, rfl, ⟨t, k1, k2, k3⟩, q⟩ := h
    refine ⟨_, (pss_one (ps_ret (pe_and (pe_callB call_isi (by rfl) T.m_isinstance (by decide +kernel) (pa_cons (pv 0) (pa_cons (pe_bltn (v := .ty "int") (by rfl) T.m_int (by decide +kernel) rfl) pa_nil))) (pe_and (pe_not (pe_callB call_isi (by rfl) T.m_isinstance (by decide +kernel) (pa_cons (pv 0) (pa_cons (pe_bltn (v := .ty "bool") (by rfl) T.m_bool (by decide +kernel) rfl) pa_nil)))) (pe_one (pe_chain op_le op_le (pv 1) (pv 0) (pv 2))))))), ?_⟩
    refine s_ret (ev_is (ev_andV (a := isI v) (b := !isB v && isNum lo hi v) (ev_cb (ea_cons (ev_var rfl) (ea_cons ev_c ea_nil)) (rc_isi k1 k2)) fun h1 => ev_andV (ev_notV (ev_cb (ea_cons (ev_var rfl) (ea_cons ev_c ea_nil)) (rc_isi k1 k3))) fun h2 => ?_) ?_) q
    · cases v with
      | int i => exact ev_chain (ev_var rfl) (ev_var rfl) rv_I0 (ev_var rfl) fun _ => rv_I0
      | bl b => exact Bool.noConfusion (show false = true from h2)
      | _ => exact Bool.noConfusion (show false = true from h1)
    · cases v <;> rfl
theorem ok_numC (e : Ent K mg "check_number" s_check_number p_check_number) (T : Top K mg CM CR CV CG fG CK fK a_SMALL_WIDTH a_SMALL_SEEN) (c1 : Cal P w K mg base CX0 1 "is_number" p_is_number (spIsNumber K)) : Cal P w K mg base CX0 5 "check_number" p_check_number spNumC := by
  obtain ⟨f, fd, F, m_, b_⟩ := e
  obtain ⟨f_is_number, fd_is_number, G_is_number, m_is_number, k_is_number, b_is_number⟩ := c1
  refine ⟨f, fd, F.ok sc_check_number (fun vs H Q E h => ?_) (fun cdv A outer s H vs Q E hr h => ?_), m_, F.kp, b_⟩
  · obtain ⟨v, lo, hi, rfl, _⟩ := h
    rfl
  · obtain ⟨v, lo, hi, rfl, h1, h2, q⟩ := h
    refine ⟨_, (pss_one (ps_if (pt_not (pt_val (pe_call G_is_number (hr.mono (by decide)) (by rfl) m_is_number k_is_number b_is_number .nil pass0 (pa_cons (pv 0) (pa_cons (pv 1) (pa_cons (pv 2) pa_nil)))))) (pss_one ps_never) pss_nil)), ?_⟩
    refine s_when (b := !isNum lo hi (.int v)) (et_not (et_B (ev_call (ea_cons (ev_var rfl) (ea_cons (ev_var rfl) (ea_cons (ev_var rfl) ea_nil))) fun H1 e1 Q q E => ⟨.int v, lo, hi, rfl, ⟨"int", .base (.int _), (by decide +kernel : kitB "int" "int" = some true), (by decide +kernel : kitB "int" "bool" = some false)⟩, q⟩))) (fun h H1 x1 => ?_) (fun h H1 x1 => q H1 x1)
    have z : isNum lo hi (.int v) = true := by
      show (decide (lo ≤ v) && decide (v ≤ hi)) = true
      rw [decide_eq_true h1, decide_eq_true h2]
      rfl
    rw [z] at h
    cases h
theorem ok_letters (e : Ent K mg "check_letters" s_check_letters p_check_letters) (T : Top K mg CM CR CV CG fG CK fK a_SMALL_WIDTH a_SMALL_SEEN) (c1 : Cal P w K mg base CX0 1 "is_number" p_is_number (spIsNumber K)) : Cal P w K mg base CX0 2 "check_letters" p_check_letters spLetters := by
  obtain ⟨f, fd, F, m_, b_⟩ := e
  obtain ⟨f_is_number, fd_is_number, G_is_number, m_is_number, k_is_number, b_is_number⟩ := c1
  refine ⟨f, fd, F.ok sc_check_letters (fun vs H Q E h => ?_) (fun cdv A outer s H vs Q E hr h => ?_), m_, F.kp, b_⟩
  · obtain ⟨n, rfl, _⟩ := h
    rfl
  · obtain ⟨n, rfl, h1, h4, q⟩ := h
    refine ⟨_, (pss_one (ps_if (pt_not (pt_val (pe_call G_is_number (hr.mono (by decide)) (by rfl) m_is_number k_is_number b_is_number .nil pass0 (pa_cons (pv 0) (pa_cons pe_int (pa_cons (pe_callB call_len_str (by rfl) T.m_len (by decide +kernel) (pa_cons (pe_glob (v := .str (PySem.Str.ofString "abcd")) (by rfl) T.g_LETTERS.choose_spec ⟨_, rfl⟩) pa_nil)) pa_nil)))))) (pss_one ps_never) pss_nil)), ?_⟩
    refine s_when (b := !isNum 1 4 (.int (n : Int))) (et_not (et_B (ev_call (vs := [.int (n : Int), .int 1, .int 4]) (ea_cons (ev_var rfl) (ea_cons ev_c (ea_cons (ev_is (ev_cb (ea_cons ev_c ea_nil) (rc_lenS (z := PySem.Str.ofString "abcd") (by decide +kernel))) (by rw [show (PySem.Str.ofString "abcd").length = 4 by decide +kernel]; rfl)) ea_nil))) fun H1 e1 Q q E => ⟨.int (n : Int), 1, 4, rfl, ⟨"int", .base (.int _), (by decide +kernel : kitB "int" "int" = some true), (by decide +kernel : kitB "int" "bool" = some false)⟩, q⟩))) (fun hh => ?_) (fun _ H1 e1 => q H1 e1)
    have z : isNum 1 4 (.int (n : Int)) = true := by
      show (decide ((1 : Int) ≤ (n : Int)) && decide ((n : Int) ≤ 4)) = true
      rw [decide_eq_true (by omega), decide_eq_true (by omega)]
      rfl
    rw [z] at hh
    cases hh
end
end K01
namespace K01
open PySem PySem.Spec PyProof.Rows L2 Evl Qt
/-- the places of the x of a mask -/
def openM (m : Str) : List Nat := (List.range m.length).filter fun i => decide (m.cps.toList.getD i 0 = 120)
def natsV (l : List Nat) : List V := l.map fun (i : Nat) => V.int (i : Int)
def spSeen (K : PySem.W.Frag) (CM : Addr) : Sp := fun vs H Q E => ∃ v, vs = [v] ∧ VOk K H v ∧ (∀ m, v = .str m → isMask m = true → RetL (natsV (openM m)) H Q) ∧ (isMaskV v = false → ∀ H', Ex H H' → E (.ref CM) none H')
def spSeen0 (K : PySem.W.Frag) : Sp := fun vs H Q _ => ∃ m, vs = [.str m] ∧ isMask m = true ∧ RetL (natsV (openM m)) H Q
theorem isMask_len {m : Str} (h : isMask m = true) : 1 ≤ m.length ∧ m.length ≤ 12 := by
  unfold isMask at h
  simp only [Bool.and_eq_true, Bool.not_eq_true', Bool.or_eq_false_iff, Bool.not_eq_false', decide_eq_true_eq] at h
  omega
section
variable {P : Program} {w : World} {K : PySem.W.Frag} {mg : Str → Option Value} {base : Heap} {CM CR CV CG fG CK fK a_SMALL_WIDTH a_SMALL_SEEN : Addr}
theorem et_x {σ : L2.St} {H : Hp} {ta tb : TE} {c : Nat} {d : Str} (hd : d = ⟨#[120]⟩) (ha : Ev ta σ H (.str ⟨#[c]⟩)) (hb : Ev tb σ H (.str d)) : EvT (tTest (tOp rEq ta tb)) σ H (decide (c = 120)) := by
  refine et_test (ev_op ha hb ?_)
  subst hd
  have e : decide (V.str (⟨#[c]⟩ : Str) = V.str ⟨#[120]⟩) = decide (c = 120) := by
    by_cases h : c = 120
    · subst h; simp
    · simp [h]
  rw [← e]
  exact rv_eq rfl
theorem ok_seen (e : Ent K mg "seen" s_seen p_seen) (T : Top K mg CM CR CV CG fG CK fK a_SMALL_WIDTH a_SMALL_SEEN) (c1 : Cal P w K mg base (L2.CX P w) 3 "check_mask" p_check_mask (spCheckMask K CM)) : Cal P w K mg base (L2.CX P w) 4 "seen" p_seen (spSeen K CM) := by
  obtain ⟨f, fd, F, m_, b_⟩ := e
  obtain ⟨f_check_mask, fd_check_mask, G_check_mask, m_check_mask, k_check_mask, b_check_mask⟩ := c1
  refine ⟨f, fd, F.okX sc_seen (fun vs H Q E h => ?_) (fun cdv A outer s H vs Q E hr h => ?_), m_, F.kp, b_⟩
  · obtain ⟨v, rfl, _⟩ := h
    rfl
  · obtain ⟨v, rfl, hv, q1, q2⟩ := h
    refine ⟨_, (pss_cons (ps_expr (pe_call G_check_mask (hr.mono (by decide)) (by rfl) m_check_mask k_check_mask b_check_mask .nil (passes_call (takes_of rfl rfl rfl rfl) (fun _ _ _ _ h => h)) (pa_cons (pv 0) pa_nil)))
      (pss_one (ps_ret (pe_lc (own := [("place", 1), ("sign", 2)]) (g := gTup K 2 (gCons (gName 1) (gCons (gName 2) gNil))) (by rfl) sc_seen.nd (pi_enumS (by rfl) T.m_enumerate (pa_cons (pv 0) pa_nil)) (blkOk_by (own := [("place", 1), ("sign", 2)]) (N := n_seen) (sc := (defScope s_seen)) (by decide +kernel)) (fun _ _ _ _ _ => by exact (pg_tup rfl (pgs_cons (by exact pg_name (i := 1) sc_seen.nd rfl (Or.inl rfl)) (pgs_cons (by exact pg_name (i := 2) sc_seen.nd rfl (Or.inl rfl)) pgs_nil)))) (fun _ _ _ _ _ => pts_one (pt_cmpR op_eq (pv 2) pe_str (nomark _))) (fun _ _ _ _ _ => (pv 1)))))), ?_⟩
    refine ⟨_, rfl, v, rfl, hv, fun hm H1 e1 => ?_, fun hm H' e' => q2 hm H' e'⟩
    cases v with
    | str m =>
      have hl := isMask_len hm
      refine s_retL (el_lcSE (z := m) (fun i => decide (m.cps.toList.getD i 0 = 120)) (fun i => V.int (i : Int)) (ea_cons (ev_var rfl) ea_nil) (by omega) (fun _ _ => rfl)
        (fun i H2 _ _ => et_x x_eq (ev_var rfl) ev_c) (fun i H2 _ _ _ => ev_var rfl)) fun p H2 np e2 h2 => ?_
      exact q1 m rfl hm p H2 (fresh_back e1 np) (e1.trans e2) h2
    | _ => exact Bool.noConfusion (show false = true from hm)
theorem seen0 (c : Cal P w K mg base (L2.CX P w) 4 "seen" p_seen (spSeen K CM)) : Cal P w K mg base CX0 4 "seen" p_seen (spSeen0 K) :=
  c.calm fun vs H Q E h => by
    obtain ⟨m, rfl, hm, q⟩ := h
    have hl := isMask_len hm
    exact ⟨.str m, rfl, .str (by omega), fun m' e _ => by cases e; exact q, fun z => by
      have z' : isMask m = false := z
      rw [hm] at z'
      cases z'⟩
end
end K01
namespace K01
open PySem PySem.Spec PyProof.Rows L2 Evl Qt
section
variable {P : Program} {w : World} {K : PySem.W.Frag} {mg : Str → Option Value} {base : Heap} {CM CR CV CG fG CK fK a_SMALL_WIDTH a_SMALL_SEEN : Addr}
theorem open_len (m : Str) : (openM m).length ≤ m.length := by
  unfold openM
  have h := List.length_filter_le (fun i => decide (m.cps.toList.getD i 0 = 120)) (List.range m.length)
  rw [List.length_range] at h
  exact h
theorem range_getD {β : Type} (l : List Nat) (g : Nat → β) : (List.range l.length).map (fun i => g (l.getD i 0)) = l.map g := by
  apply List.ext_getElem
  · simp
  · intro i h1 h2
    simp only [List.length_map] at h2
    simp [List.getD_eq_getElem?_getD, List.getElem?_eq_getElem h2]
theorem natsV_get {l : List Nat} {i : Nat} {x : V} (h : (natsV l)[i]? = some x) : i < l.length ∧ x = .int ((l.getD i 0 : Nat) : Int) := by
  unfold natsV at h
  rw [List.getElem?_map] at h
  cases e : l[i]? with
  | none => rw [e] at h; cases h
  | some c =>
    rw [e] at h
    refine ⟨(List.getElem?_eq_some_iff.mp e).1, ?_⟩
    rw [List.getD_eq_getElem?_getD, e]
    exact (Option.some.inj h).symm
theorem natsV_len (l : List Nat) : (natsV l).length = l.length := List.length_map ..
theorem nil_l : (PySem.Str.ofString "").cps.toList = [] := by decide +kernel
end
end K01
namespace K01
open PySem PySem.Spec PyProof.Rows L2 Evl Qt
section
variable {P : Program} {w : World} {K : PySem.W.Frag} {mg : Str → Option Value} {base : Heap} {CM CR CV CG fG CK fK a_SMALL_WIDTH a_SMALL_SEEN : Addr}
theorem rc_int {H : Hp} {i : Int} : RC (fun xs H Q => (∃ i, xs = [V.int i] ∧ Q (.int i) H) ∨ ∃ k, xs = [V.bl k] ∧ Q (.int (if k then 1 else 0)) H) [.int i] H (.int i) := fun H1 _ _ q => .inl ⟨i, rfl, q H1 (Ex.refl H1)⟩
theorem evr {σ : L2.St} {H : Hp} {r : Addr} {xs : List V} {j : Int} {v : V} (hr : H r = some (.lst xs)) (h0 : σ[0]? = some (some (.ref r))) (ha : atI xs j = some v) : Ev (tOp (rIxL K) (tVar 0) (tC (.int j))) σ H v :=
  ev_op (ev_var h0) ev_c (rv_ixL (sq_of hr) ha)
theorem rc_lenL {H : Hp} {a : Addr} {xs : List V} (h : SqL K H a xs) : RC (fun xs H Q => ∃ x n, xs = [x] ∧ LenV K x H n ∧ Q (.int (n : Int)) H) [.ref a] H (.int (xs.length : Int)) := fun H1 e _ q =>
  ⟨.ref a, xs.length, rfl, .inl ⟨xs, ex_l e h, rfl⟩, q H1 (Ex.refl H1)⟩
theorem xr_upd {r : Addr} {H : Hp} {o : HO} : Xr K r H (upd H r o) := fun a u ne h => by rw [upd_ne ne]; exact h
theorem ok_taken (e : Ent K mg "_law_taken" s__law_taken p__law_taken) (T : Top K mg CM CR CV CG fG CK fK a_SMALL_WIDTH a_SMALL_SEEN) : Cal P w K mg base CX0 1 "_law_taken" p__law_taken (spTaken K) := by
  obtain ⟨f, fd, F, m_, b_⟩ := e
  refine ⟨f, fd, F.ok sc__law_taken (fun vs H Q E h => ?_) (fun cdv A outer s H vs Q E hr h => ?_), m_, F.kp, b_⟩
  · obtain ⟨r, sc, ns, m, rfl, _⟩ := h
    rfl
  · obtain ⟨r, sc, ns, m, rfl, h1, h2, hR, q⟩ := h
    obtain ⟨i, sd, x, hr1, hs, hl, i0, s0, s1⟩ := id hR
    refine ⟨_, (pss_cons (ps_if (pt_cmpR op_gt (pe_ix ix_list (pv 0) pe_int (fun _ _ => rfl)) pe_int (nomark _)) (pss_cons (ps_set (i := 2) sc__law_taken.nd rfl (Or.inl rfl) (pe_op op_mod (pe_callTy call_int1 (by rfl) T.m_int (by decide +kernel) (pa_cons (pe_ix ix_list (pv 0) pe_int (fun _ _ => rfl)) pa_nil)) (pv 1)))
      (pss_cons (ps_asg (pe_op op_fdiv (pe_ix ix_list (pv 0) pe_int (fun _ _ => rfl)) (pv 1)) (pg_sub (pv 0) pe_int set_list))
      (pss_one (ps_ret (pv 2))))) pss_nil)
      (pss_cons (ps_asg (pe_op op_add (pe_ix ix_list (pv 0) pe_int (fun _ _ => rfl)) pe_int) (pg_sub (pv 0) pe_int set_list))
      (pss_cons (ps_if (pt_cmpR op_gt (pe_ix ix_list (pv 0) pe_int (fun _ _ => rfl)) (pe_callB call_len (by rfl) T.m_len (by decide +kernel) (pa_cons (pe_ix ix_list (pv 0) pe_int (fun _ _ => rfl)) pa_nil)) (nomark _)) (pss_cons (ps_asg (pe_op op_mod (pe_callTy call_int1 (by rfl) T.m_int (by decide +kernel) (pa_cons (pe_op op_add (pe_op op_mul (pe_ix ix_list (pv 0) pe_int (fun _ _ => rfl)) pe_int) pe_int) pa_nil)) pe_int) (pg_sub (pv 0) pe_int set_list))
      (pss_one (ps_ret (pe_op op_mod (pe_callTy call_int1 (by rfl) T.m_int (by decide +kernel) (pa_cons (pe_op op_fdiv (pe_ix ix_list (pv 0) pe_int (fun _ _ => rfl)) pe_int) pa_nil)) (pv 1))))) pss_nil)
      (pss_cons (ps_set (i := 3) sc__law_taken.nd rfl (Or.inl rfl) (pe_ix ix_list (pe_ix ix_list (pv 0) pe_int (fun _ _ => rfl)) (pe_op op_sub (pe_ix ix_list (pv 0) pe_int (fun _ _ => rfl)) pe_int) (fun _ _ => rfl)))
      (pss_cons (ps_asg (pe_op op_mod (pe_callTy call_int1 (by rfl) T.m_int (by decide +kernel) (pa_cons (pe_op op_add (pe_op op_add (pe_op op_mul (pe_ix ix_list (pv 0) pe_int (fun _ _ => rfl)) pe_int) (pv 3)) pe_int) pa_nil)) pe_int) (pg_sub (pv 0) pe_int set_list))
      (pss_cons (ps_if (pt_cmpR op_ge (pv 3) (pe_op op_pow pe_int pe_int) (nomark _)) (pss_one (ps_asg (pe_op op_fdiv (pv 3) (pv 1)) (pg_sub (pv 0) pe_int set_list))) pss_nil)
      (pss_one (ps_ret (pe_op op_mod (pe_callTy call_int1 (by rfl) T.m_int (by decide +kernel) (pa_cons (pv 3) pa_nil)) (pv 1)))))))))), ?_⟩
    have fin : ∀ {H' : Hp} {i' s' x' : Int}, Xr K r H H' → H' r = some (.lst [.ref sc, .int i', .int s', .int x']) → 0 ≤ i' → 0 ≤ s' → s' < 2147483647 → Qt.Row K r sc ns H' := fun X hr a b c => ⟨_, _, _, hr, hR.sq X, hl, a, b, c⟩
    have md : ∀ z : Int, 0 ≤ z % m ∧ z % m < m := fun z => ⟨Int.emod_nonneg z (by omega), Int.emod_lt_of_pos z (by omega)⟩
    have mg_ : ∀ z : Int, 0 ≤ z % 2147483647 ∧ z % 2147483647 < 2147483647 := fun z => ⟨Int.emod_nonneg z (by omega), Int.emod_lt_of_pos z (by omega)⟩
    refine q_when (b := decide (0 < x)) (et_test (ev_op (evr hr1 rfl (atI_nat (j := 3) rfl)) ev_c rv_I0)) (fun hb H1 e1 => ?_) (fun hb H1 e1 => ?_)
    · -- the rest of a great cell
      have r1 := e1 _ _ hr1
      refine q_asg (ev_op (ev_cb (ea_cons (evr r1 rfl (atI_nat (j := 3) rfl)) ea_nil) rc_int) (ev_var rfl) (rv_I (show 0 < m by omega))) fun H2 e2 => ?_
      have r2 := e2 _ _ r1
      refine q_setL (j := 3) r2 (ev_op (evr r2 rfl (atI_nat (j := 3) rfl)) (ev_var rfl) (rv_I ⟨by omega, by omega⟩)) (ev_var rfl) ev_c (by simp) fun H3 e3 => ?_
      refine s_ret (ev_var rfl) fun H4 e4 => ?_
      have X : Xr K r H H4 := (((Xr.of e1).trans (Xr.of e2)).trans (Xr.of e3)).trans (xr_upd.trans (Xr.of e4))
      exact q _ H4 (md x).1 (md x).2 X (fin X (e4 _ _ upd_same) i0 s0 s1)
    · have r1 := e1 _ _ hr1
      refine q_setL (j := 1) r1 (ev_op (evr r1 rfl (atI_nat (j := 1) rfl)) ev_c rv_I0) (ev_var rfl) ev_c (by simp) fun H2 e2 => ?_
      have X2 : Xr K r H (upd H2 r (.lst [.ref sc, .int (i + 1), .int sd, .int x])) := ((Xr.of e1).trans (Xr.of e2)).trans xr_upd
      have r2 : (upd H2 r (.lst [.ref sc, .int (i + 1), .int sd, .int x])) r = some (.lst [.ref sc, .int (i + 1), .int sd, .int x]) := upd_same
      generalize hG : upd H2 r (.lst [.ref sc, .int (i + 1), .int sd, .int x]) = G at X2 r2
      have hs2 : SqL K G sc (ns.map V.int) := hR.sq X2
      show tSeq _ _ _ _ (upd H2 r (.lst [.ref sc, .int (i + 1), .int sd, .int x]))
      rw [hG]
      refine q_when (b := decide (((ns.map V.int).length : Int) < i + 1)) (et_test (ev_op (evr r2 rfl (atI_nat (j := 1) rfl)) (ev_cb (ea_cons (evr r2 rfl (atI_nat (j := 0) rfl)) ea_nil) (rc_lenL hs2)) rv_I0)) (fun hc H3 e3 => ?_) (fun hc H3 e3 => ?_)
      · -- mixed numbers
        have r3 := e3 _ _ r2
        refine q_setL (j := 2) r3 (ev_op (ev_cb (ea_cons (ev_op (ev_op (evr r3 rfl (atI_nat (j := 2) rfl)) ev_c (rv_I (.inl ⟨by omega, by omega⟩))) ev_c rv_I0) ea_nil) rc_int) ev_c (rv_I (by decide))) (ev_var rfl) ev_c (by simp) fun H4 e4 => ?_
        have X4 := (X2.trans (Xr.of e3)).trans ((Xr.of e4).trans (xr_upd (o := .lst [.ref sc, .int (i + 1), .int ((sd * 48271 + 11) % 2147483647), .int x])))
        refine s_ret (ev_op (ev_cb (ea_cons (ev_op (evr (xs := [.ref sc, .int (i + 1), .int ((sd * 48271 + 11) % 2147483647), .int x]) upd_same rfl (atI_nat (j := 2) rfl)) ev_c (rv_I ⟨by decide, by decide⟩)) ea_nil) rc_int) (ev_var rfl) (rv_I (show 0 < m by omega))) fun H5 e5 => ?_
        have X5 := X4.trans (Xr.of e5)
        exact q _ H5 (md _).1 (md _).2 X5 (fin X5 (e5 _ _ upd_same) (by omega) (mg_ _).1 (mg_ _).2)
      · have hi : i < (ns.length : Int) := by
          have z := of_decide_eq_false hc
          rw [List.length_map] at z
          omega
        have r3 := e3 _ _ r2
        have X3 := X2.trans (Xr.of e3)
        obtain ⟨n, rfl⟩ := Int.eq_ofNat_of_zero_le i0
        have hcell : atI (ns.map V.int) ((n : Int) + 1 - 1) = some (.int (ns.getD n 0)) := by
          have e0 : (n : Int) + 1 - 1 = (n : Int) := by omega
          rw [e0]
          refine atI_nat ?_
          rw [List.getElem?_map, List.getD_eq_getElem?_getD, List.getElem?_eq_getElem (by omega)]
          rfl
        refine q_asg (ev_op (evr r3 rfl (atI_nat (j := 0) rfl)) (ev_op (evr r3 rfl (atI_nat (j := 1) rfl)) ev_c rv_I0) (rv_ixL (ex_l e3 hs2) hcell)) fun H4 e4 => ?_
        have r4 := e4 _ _ r3
        refine q_setL (j := 2) r4 (ev_op (ev_cb (ea_cons (ev_op (ev_op (ev_op (evr r4 rfl (atI_nat (j := 2) rfl)) ev_c (rv_I (.inl ⟨by omega, by omega⟩))) (ev_var rfl) rv_I0) ev_c rv_I0) ea_nil) rc_int) ev_c (rv_I (by decide))) (ev_var rfl) ev_c (by simp) fun H5 e5 => ?_
        have X5 := (X3.trans (Xr.of e4)).trans ((Xr.of e5).trans (xr_upd (o := .lst [.ref sc, .int ((n : Int) + 1), .int ((sd * 48271 + ns.getD n 0 + 11) % 2147483647), .int x])))
        have r5 : (upd H5 r (.lst [.ref sc, .int ((n : Int) + 1), .int ((sd * 48271 + ns.getD n 0 + 11) % 2147483647), .int x])) r = some (.lst [.ref sc, .int ((n : Int) + 1), .int ((sd * 48271 + ns.getD n 0 + 11) % 2147483647), .int x]) := upd_same
        generalize hG5 : upd H5 r (.lst [.ref sc, .int ((n : Int) + 1), .int ((sd * 48271 + ns.getD n 0 + 11) % 2147483647), .int x]) = G5 at X5 r5
        show tSeq _ _ _ _ (upd H5 r (.lst [.ref sc, .int ((n : Int) + 1), .int ((sd * 48271 + ns.getD n 0 + 11) % 2147483647), .int x]))
        rw [hG5]
        refine q_when (b := decide (((10 : Int) ^ (18 : Int).toNat) ≤ ns.getD n 0)) (et_test (ev_op (ev_var rfl) (ev_op ev_c ev_c (rv_I ⟨by decide, by decide, by decide⟩)) rv_I0)) (fun hd H6 e6 => ?_) (fun hd H6 e6 => ?_)
        · have r6 := e6 _ _ r5
          refine s_setL (j := 3) r6 (ev_op (ev_var rfl) (ev_var rfl) (rv_I ⟨by omega, by omega⟩)) (ev_var rfl) ev_c (by simp) fun H7 e7 => ?_
          dsimp only
          refine s_ret (ev_op (ev_cb (ea_cons (ev_var rfl) ea_nil) rc_int) (ev_var rfl) (rv_I (show 0 < m by omega))) fun H8 e8 => ?_
          have X8 := ((X5.trans (Xr.of e6)).trans (Xr.of e7)).trans (xr_upd.trans (Xr.of e8))
          exact q _ H8 (md _).1 (md _).2 X8 (fin X8 (e8 _ _ upd_same) (by omega) (mg_ _).1 (mg_ _).2)
        · refine s_ret (ev_op (ev_cb (ea_cons (ev_var rfl) ea_nil) rc_int) (ev_var rfl) (rv_I (show 0 < m by omega))) fun H7 e7 => ?_
          have X7 := (X5.trans (Xr.of e6)).trans (Xr.of e7)
          exact q _ H7 (md _).1 (md _).2 X7 (fin X7 (e7 _ _ (e6 _ _ r5)) (by omega) (mg_ _).1 (mg_ _).2)
end
end K01
namespace K01
open PySem PySem.Spec PyProof.Rows L2 Evl Qt
def spMaskDraw (K : PySem.W.Frag) : Sp := fun vs H Q _ => ∃ (r sc : Addr) (ns : List Int) (wd : Int), vs = [.ref r, .int wd] ∧ 1 ≤ wd ∧ wd ≤ 12 ∧ Qt.Row K r sc ns H ∧
  ∀ (z : Str) (H' : Hp), isMask z = true → (z.length : Int) ≤ wd → Xr K r H H' → Qt.Row K r sc ns H' → Q (.str z) H'
def spOpen : Sp := fun vs H Q _ => ∃ m : Str, vs = [.str m] ∧ m.length ≤ 1000 ∧ RetL (natsV (openM m)) H Q
theorem madeOf_of {z : Str} (h : ∀ c ∈ z.cps.toList, c = 120 ∨ c = 46) : madeOf (.str z) sx = true := by
  show (z.cps.toList.all fun c => decide (c ∈ sx.cps.toList)) = true
  rw [sx_l, List.all_eq_true]
  intro c hc
  rcases h c hc with rfl | rfl <;> decide
theorem isMask_of {z : Str} (h : ∀ c ∈ z.cps.toList, c = 120 ∨ c = 46) (h1 : 1 ≤ z.length) (h2 : z.length ≤ 12) (a : fst z = 120) (b : lst z = 120) : isMask z = true := by
  unfold isMask
  rw [madeOf_of h, a, b, decide_eq_true (show (1 : Int) ≤ (z.length : Int) by omega), decide_eq_true (show (z.length : Int) ≤ 12 by omega)]
  rfl
section
variable {P : Program} {w : World} {K : PySem.W.Frag} {mg : Str → Option Value} {base : Heap} {CM CR CV CG fG CK fK a_SMALL_WIDTH a_SMALL_SEEN : Addr}
theorem dx_l : (PySem.Str.ofString ".x").cps.toList = [46, 120] := by decide +kernel
theorem xone : (PySem.Str.ofString "x").cps.toList = [120] := by decide +kernel
theorem x_len : (PySem.Str.ofString "x").length = 1 := by decide +kernel
end
end K01
namespace K01
open PySem PySem.Spec PyProof.Rows L2 Evl Qt
def sl : Str := PySem.Str.ofString "abcd"
def isRow (m : Str) : Bool := madeOf (.str m) sl && decide (m.length ≤ 60)
def isRowV : V → Bool
  | .str m => isRow m
  | _ => false
def spIsRow (K : PySem.W.Frag) : Sp := fun vs H Q _ => ∃ v, vs = [v] ∧ VOk K H v ∧ RetV (.bl (isRowV v)) H Q
def viewM (row : Str) (l : List Nat) (st : Nat) : Str := txt (l.map fun p => row.cps.toList.getD (st + p) 0)
def viewsM (row m : Str) : List Str := (List.range (row.length + 1 - m.length)).map (viewM row (openM m))
def missB (x y : Str) (i : Nat) : Bool := !decide (y.cps.toList.getD i 0 = 63) && !decide (y.cps.toList.getD i 0 = x.cps.toList.getD i 0)
def missM (x y : Str) : Nat := ((List.range x.length).filter (missB x y)).length
def spCheckRow : Sp := fun vs H Q _ => ∃ m, vs = [.str m] ∧ isRow m = true ∧ RetV .non H Q
def spViewAt (K : PySem.W.Frag) : Sp := fun vs H Q _ => ∃ (row : Str) (a : Addr) (l : List Nat) (st : Nat), vs = [.str row, .ref a, .int (st : Int)] ∧ SqL K H a (natsV l) ∧ (∀ p ∈ l, st + p < row.length) ∧ l.length ≤ 1000 ∧ row.length ≤ 1000 ∧ RetV (.str (viewM row l st)) H Q
def spOthers : Sp := fun vs H Q _ => ∃ x y : Str, vs = [.str x, .str y] ∧ y.length = x.length ∧ x.length ≤ 1000 ∧ RetV (.int (missM x y : Int)) H Q
def spViews : Sp := fun vs H Q _ => ∃ row m : Str, vs = [.str row, .str m] ∧ isRow row = true ∧ isMask m = true ∧ RetL ((viewsM row m).map V.str) H Q
theorem q_eq : PySem.Str.ofString "?" = ⟨#[63]⟩ := by decide +kernel
theorem open_lt {m : Str} {p : Nat} (h : p ∈ openM m) : p < m.length := List.mem_range.mp (List.mem_filter.mp h).1
theorem rv_chrs {H : Hp} {c d : Nat} : RV rNe (.str ⟨#[c]⟩) (.str ⟨#[d]⟩) H (.bl (!decide (c = d))) := by
  have e : decide (V.str (⟨#[c]⟩ : Str) = V.str ⟨#[d]⟩) = decide (c = d) := by
    by_cases h : c = d
    · subst h; simp
    · simp [h]
  rw [← e]
  exact rv_ne rfl
section
variable {P : Program} {w : World} {K : PySem.W.Frag} {mg : Str → Option Value} {base : Heap} {CM CR CV CG fG CK fK a_SMALL_WIDTH a_SMALL_SEEN : Addr}
theorem ok_is_row (e : Ent K mg "is_row" s_is_row p_is_row) (T : Top K mg CM CR CV CG fG CK fK a_SMALL_WIDTH a_SMALL_SEEN) (c1 : Cal P w K mg base CX0 1 "made_of" p_made_of (spMade K)) : Cal P w K mg base CX0 2 "is_row" p_is_row (spIsRow K) := by
  obtain ⟨f, fd, F, m_, b_⟩ := e
  obtain ⟨f_made_of, fd_made_of, G_made_of, m_made_of, k_made_of, b_made_of⟩ := c1
  refine ⟨f, fd, F.ok sc_is_row (fun vs H Q E h => ?_) (fun cdv A outer s H vs Q E hr h => ?_), m_, F.kp, b_⟩
  · obtain ⟨v, rfl, _⟩ := h
    rfl
  · obtain ⟨v, rfl, hv, q⟩ := h
    refine ⟨_, (pss_one (ps_ret (pe_and (pe_call G_made_of (hr.mono (by decide)) (by rfl) m_made_of k_made_of b_made_of .nil pass0 (pa_cons (pv 0) (pa_cons (pe_glob (v := .str (PySem.Str.ofString "abcd")) (by rfl) T.g_LETTERS.choose_spec ⟨_, rfl⟩) pa_nil))) (pe_one (pe_cmpR op_le (pe_callB call_len_str (by rfl) T.m_len (by decide +kernel) (pa_cons (pv 0) pa_nil)) (pe_glob (v := .int 60) (by rfl) T.g_LONGEST.choose_spec ⟨_, rfl⟩) (nomark _)))))), ?_⟩
    refine s_ret (v := .bl (isRowV v)) (ev_is (ev_andV (a := madeOf v sl) (b := decide (lenOf v ≤ 60)) (ev_call (ea_cons (ev_var rfl) (ea_cons ev_c ea_nil)) (made_val hv)) fun h => ev_op (x := .int (lenOf v)) ?_ ev_c rv_I0) ?_) q
    · cases v with
      | str m =>
        obtain ⟨t, _, _, h3⟩ := hv
        exact ev_cb (ea_cons (ev_var rfl) ea_nil) fun H2 _ _ q => ⟨m, rfl, by have := h3 m rfl; rw [sizeLine_eq]; omega, q H2 (Ex.refl H2)⟩
      | _ => exact Bool.noConfusion (show false = true from h)
    · cases v with
      | str m =>
        show V.bl (madeOf (.str m) sl && decide ((m.length : Int) ≤ 60)) = V.bl (madeOf (.str m) sl && decide (m.length ≤ 60))
        rw [decide_eq_decide.mpr (show (m.length : Int) ≤ 60 ↔ m.length ≤ 60 by omega)]
      | _ => rfl
theorem sum_nat (a b : Nat) : (a : Int) + (b : Int) = ((a + b : Nat) : Int) := by omega
theorem at_sign {z : Str} {i : Nat} (h : i < z.length) : atI z.cps.toList (i : Int) = some (z.cps.toList.getD i 0) := atI_nat (by
  have hl := len_l z
  rw [List.getElem?_eq_getElem (by omega), List.getD_eq_getElem?_getD, List.getElem?_eq_getElem (by omega)]
  rfl)
theorem view_list (row : Str) (l : List Nat) (st : Nat) : (List.range l.length).map (fun i => V.str ⟨#[row.cps.toList.getD (st + l.getD i 0) 0]⟩) = (l.map fun p => row.cps.toList.getD (st + p) 0).map fun c => V.str ⟨#[c]⟩ := by
  rw [range_getD l fun c => V.str ⟨#[row.cps.toList.getD (st + c) 0]⟩, List.map_map]
  rfl
theorem mem_getD {l : List Nat} {i : Nat} (h : i < l.length) : l.getD i 0 ∈ l := by
  rw [List.getD_eq_getElem?_getD, List.getElem?_eq_getElem h]
  exact List.getElem_mem h
theorem ok_view_at (e : Ent K mg "view_at" s_view_at p_view_at) (T : Top K mg CM CR CV CG fG CK fK a_SMALL_WIDTH a_SMALL_SEEN) : Cal P w K mg base CX0 1 "view_at" p_view_at (spViewAt K) := by
  obtain ⟨f, fd, F, m_, b_⟩ := e
  refine ⟨f, fd, F.ok sc_view_at (fun vs H Q E h => ?_) (fun cdv A outer s H vs Q E hr h => ?_), m_, F.kp, b_⟩
  · obtain ⟨row, a, l, st, rfl, _⟩ := h
    rfl
  · obtain ⟨row, a, l, st, rfl, ha, hp, hl, hr', q⟩ := h
    refine ⟨_, (pss_one (ps_ret (pe_join pe_str (pe_lc (own := [("place", 3)]) (g := gName 3) (by rfl) sc_view_at.nd (pi_list (pv 1)) (blkOk_by (own := [("place", 3)]) (N := n_view_at) (sc := (defScope s_view_at)) (by decide +kernel)) (fun _ _ _ _ _ => pg_name (i := 3) sc_view_at.nd rfl (Or.inl rfl)) (fun _ _ _ _ _ => pts_nil) (fun _ _ _ _ _ => (pe_ix ix_str (pv 0) (pe_op op_add (pv 2) (pv 3)) (fun _ _ => rfl))))))), ?_⟩
    have z : EvL (tLc (iList K (tVar 1)) (gName 3) tYes (tOp rIxS (tVar 0) (tOp (rI0 fun i j => V.int (i + j)) (tVar 2) (tVar 3))) [3]) (start n_view_at [.str row, .ref a, .int (st : Int)]) H _ :=
      el_lcL (fun _ => true) (fun i => V.str ⟨#[row.cps.toList.getD (st + l.getD i 0) 0]⟩) (ev_var rfl) ha (by rw [natsV_len]; omega) (fun _ => rfl) (fun _ _ _ _ _ => et_yes) (fun i x H1 e1 hx _ => by
        obtain ⟨hi, rfl⟩ := natsV_get hx
        refine ev_op (ev_var rfl) (ev_op (ev_var rfl) (ev_var rfl) rv_I0) ?_
        rw [sum_nat]
        exact rv_ixS (by omega) (at_sign (hp _ (mem_getD hi))))
    rw [given_all, natsV_len, view_list] at z
    exact s_ret (ev_join nil_l z (by rw [List.length_map]; omega)) q
theorem ok_others (e : Ent K mg "others" s_others p_others) (T : Top K mg CM CR CV CG fG CK fK a_SMALL_WIDTH a_SMALL_SEEN) : Cal P w K mg base CX0 1 "others" p_others spOthers := by
  obtain ⟨f, fd, F, m_, b_⟩ := e
  refine ⟨f, fd, F.ok sc_others (fun vs H Q E h => ?_) (fun cdv A outer s H vs Q E hr h => ?_), m_, F.kp, b_⟩
  · obtain ⟨x, y, rfl, _⟩ := h
    rfl
  · obtain ⟨x, y, rfl, hl, hx, q⟩ := h
    refine ⟨_, (pss_one (ps_ret (pe_callB call_len (by rfl) T.m_len (by decide +kernel) (pa_cons (pe_lc (own := [("letter", 2), ("sign", 3)]) (g := gTup K 2 (gCons (gName 2) (gCons (gName 3) gNil))) (by rfl) sc_others.nd (pi_zipS (by rfl) T.m_zip (pa_cons (pv 0) (pa_cons (pv 1) pa_nil))) (blkOk_by (own := [("letter", 2), ("sign", 3)]) (N := n_others) (sc := (defScope s_others)) (by decide +kernel)) (fun _ _ _ _ _ => by exact (pg_tup rfl (pgs_cons (by exact pg_name (i := 2) sc_others.nd rfl (Or.inl rfl)) (pgs_cons (by exact pg_name (i := 3) sc_others.nd rfl (Or.inl rfl)) pgs_nil)))) (fun _ _ _ _ _ => pts_one (PW.pt (pw_and (pt_cmpR op_ne (pv 3) (pe_glob (v := .str (PySem.Str.ofString "?")) (by rfl) T.g_UNREAD.choose_spec ⟨_, rfl⟩) (nomark _)) (pw_and1 (pt_cmpR op_ne (pv 3) (pv 2) (nomark _)))))) (fun _ _ _ _ _ => (pv 3))) pa_nil)))), ?_⟩
    refine s_ret (v := .int (missM x y : Int)) (ev_is (ev_lenL (el_lcZS (x := x) (y := y) (missB x y) (fun i => sg y i) (ea_cons (ev_var rfl) (ea_cons (ev_var rfl) ea_nil)) (by omega) hl (fun _ _ => rfl)
      (fun i H1 _ hi => et_and (et_test (ev_op (ev_var rfl) ev_c ?_)) fun _ => et_test (ev_op (ev_var rfl) (ev_var rfl) rv_chrs)) (fun i H1 _ hi _ => ev_var rfl))) ?_) q
    · rw [q_eq]
      exact rv_chrs
    · congr 2
      unfold given missM
      rw [List.length_map]
end
end K01
namespace K01
open PySem PySem.Spec PyProof.Rows L2 Evl Qt
def sa : Str := sl ++ PySem.Str.ofString "?"
def isLook (m : Str) : V → Bool
  | .str z => madeOf (.str z) sa && decide (z.length = (openM m).length)
  | _ => false
def nearM (row m z : Str) (n : Nat) : List Nat := (List.range (row.length + 1 - m.length)).filter fun i => decide (missM (viewM row (openM m) i) z ≤ n)
def spCheckLook (K : PySem.W.Frag) (CV : Addr) : Sp := fun vs H Q E => ∃ (v : V) (m : Str), vs = [v, .str m] ∧ VOk K H v ∧ m.length ≤ 1000 ∧ (isLook m v = true → RetV .non H Q) ∧ (isLook m v = false → ∀ H', Ex H H' → E (.ref CV) none H')
def spIsLook (K : PySem.W.Frag) : Sp := fun vs H Q _ => ∃ (v : V) (m : Str), vs = [v, .str m] ∧ VOk K H v ∧ m.length ≤ 1000 ∧ RetV (.bl (isLook m v)) H Q
def spNear0 : Sp := fun vs H Q _ => ∃ (row m z : Str) (n : Nat), vs = [.str row, .str m, .str z, .int (n : Int)] ∧ isRow row = true ∧ isMask m = true ∧ isLook m (.str z) = true ∧ n ≤ 12 ∧ RetL (natsV (nearM row m z n)) H Q
def spFind0 : Sp := fun vs H Q _ => ∃ (row m z : Str), vs = [.str row, .str m, .str z] ∧ isRow row = true ∧ isMask m = true ∧ isLook m (.str z) = true ∧ RetL (natsV (nearM row m z 0)) H Q
section
variable {P : Program} {w : World} {K : PySem.W.Frag} {mg : Str → Option Value} {base : Heap} {CM CR CV CG fG CK fK a_SMALL_WIDTH a_SMALL_SEEN : Addr}
end
end K01
namespace K01
open PySem PySem.Spec PyProof.Rows L2 Evl Qt
def spLine (K : PySem.W.Frag) : Sp := fun vs H Q _ => ∃ (r sc : Addr) (ns : List Int) (most lt : Int), vs = [.ref r, .int most, .int lt] ∧ 0 ≤ most ∧ most ≤ 60 ∧ 1 ≤ lt ∧ lt ≤ 4 ∧ Qt.Row K r sc ns H ∧
  ∀ (z : Str) (H' : Hp), isRow z = true → (z.length : Int) ≤ most → Xr K r H H' → Qt.Row K r sc ns H' → Q (.str z) H'
/-- the same: which letters were drawn is told, too -/
def spLineL (K : PySem.W.Frag) : Sp := fun vs H Q _ => ∃ (r sc : Addr) (ns : List Int) (most lt : Int), vs = [.ref r, .int most, .int lt] ∧ 0 ≤ most ∧ most ≤ 60 ∧ 1 ≤ lt ∧ lt ≤ 4 ∧ Qt.Row K r sc ns H ∧
  ∀ (z : Str) (H' : Hp), (∀ c ∈ z.cps.toList, 97 ≤ c ∧ (c : Int) < 97 + lt) → (z.length : Int) ≤ most → Xr K r H H' → Qt.Row K r sc ns H' → Q (.str z) H'
def spLViews : Sp := fun vs H Q _ => ∃ row m : Str, vs = [.str row, .str m] ∧ row.length ≤ 1000 ∧ m.length ≤ 1000 ∧ RetL ((viewsM row m).map V.str) H Q
section
variable {P : Program} {w : World} {K : PySem.W.Frag} {mg : Str → Option Value} {base : Heap} {CM CR CV CG fG CK fK a_SMALL_WIDTH a_SMALL_SEEN : Addr}
end
end K01
namespace K01
open PySem PySem.Spec PyProof.Rows L2 Evl Qt
def spTells : Sp := fun vs H Q _ => ∃ row m : Str, vs = [.str row, .str m] ∧ isRow row = true ∧ isMask m = true ∧ RetV (.bl (decide (viewsM row m).Nodup)) H Q
def spLTells : Sp := fun vs H Q _ => ∃ row m : Str, vs = [.str row, .str m] ∧ row.length ≤ 1000 ∧ m.length ≤ 1000 ∧ RetV (.bl (decide (viewsM row m).Nodup)) H Q
section
variable {P : Program} {w : World} {K : PySem.W.Frag} {mg : Str → Option Value} {base : Heap} {CM CR CV CG fG CK fK a_SMALL_WIDTH a_SMALL_SEEN : Addr}
def spUnlike (K : PySem.W.Frag) : Sp := fun vs H Q _ => ∃ (a : Addr) (xs : List Str), vs = [.ref a] ∧ SqL K H a (xs.map V.str) ∧ xs.length ≤ 2000 ∧ RetV (.bl (decide xs.Nodup)) H Q
end
end K01
namespace K01
open PySem PySem.Spec PyProof.Rows L2 Evl Qt
def ringV (row : Str) (l : List Nat) (st : Nat) : Str := txt (l.map fun p => row.cps.toList.getD ((st + p) % row.length) 0)
def ringM (row m : Str) : List Str := (List.range row.length).map (ringV row (openM m))
def spCheckRing : Sp := fun vs H Q _ => ∃ m, vs = [.str m] ∧ isRow m = true ∧ 1 ≤ m.length ∧ RetV .non H Q
def spRingView (K : PySem.W.Frag) : Sp := fun vs H Q _ => ∃ (row : Str) (a : Addr) (l : List Nat) (i : Nat), vs = [.str row, .ref a, .int (i : Int)] ∧ SqL K H a (natsV l) ∧ l.length ≤ 1000 ∧ 1 ≤ row.length ∧ row.length ≤ 1000 ∧ RetV (.str (ringV row l i)) H Q
def spRing : Sp := fun vs H Q _ => ∃ row m : Str, vs = [.str row, .str m] ∧ isRow row = true ∧ 1 ≤ row.length ∧ isMask m = true ∧ RetL ((ringM row m).map V.str) H Q
def spRingTells : Sp := fun vs H Q _ => ∃ row m : Str, vs = [.str row, .str m] ∧ isRow row = true ∧ 1 ≤ row.length ∧ isMask m = true ∧ RetV (.bl (decide (ringM row m).Nodup)) H Q
section
variable {P : Program} {w : World} {K : PySem.W.Frag} {mg : Str → Option Value} {base : Heap} {CM CR CV CG fG CK fK a_SMALL_WIDTH a_SMALL_SEEN : Addr}
end
end K01
namespace K01
open PySem PySem.Spec PyProof.Rows L2 Evl Qt
/-- what is grouped: n things pf with the texts f -/
def prsL (pf : Nat → V) (f : Nat → Str) (n : Nat) : List (List V) := (List.range n).map fun i => [pf i, .str (f i)]
def spGrouped : Sp := fun vs H Q _ => ∃ (a : Addr) (n : Nat) (pf : Nat → V) (f : Nat → Str), vs = [.ref a] ∧ LTup H a (prsL pf f n) ∧ n ≤ 1000 ∧ RetT (groupsL f pf n) H Q
def spLeast : Sp := fun vs H Q _ => ∃ (a : Addr) (n : Nat) (pf : Nat → V) (f : Nat → Str), vs = [.ref a] ∧ LTup H a (prsL pf f n) ∧ n ≤ 1000 ∧ (groupsL f pf n = [] → RetV .non H Q) ∧
  ∀ x r, groupsL f pf n = x :: r → ∀ p H2, Ex H H2 → H2 p = some (.tup (x.take 2)) → Q (.ref p) H2
def groupsM (row m : Str) : List (List V) := groupsL (fun i => viewM row (openM m) i) (fun i => .int (i : Nat)) (row.length + 1 - m.length)
def spGroups : Sp := fun vs H Q _ => ∃ row m : Str, vs = [.str row, .str m] ∧ isRow row = true ∧ isMask m = true ∧ RetT (groupsM row m) H Q
def spAlike : Sp := fun vs H Q _ => ∃ row m : Str, vs = [.str row, .str m] ∧ isRow row = true ∧ isMask m = true ∧ (groupsM row m = [] → RetV .non H Q) ∧
  ∀ x r, groupsM row m = x :: r → ∀ p H2, Ex H H2 → H2 p = some (.tup (x.take 2)) → Q (.ref p) H2
section
variable {P : Program} {w : World} {K : PySem.W.Frag} {mg : Str → Option Value} {base : Heap} {CM CR CV CG fG CK fK a_SMALL_WIDTH a_SMALL_SEEN : Addr}
end
end K01
namespace K01
open PySem PySem.Spec PyProof.Rows L2 Evl Qt PySem.W
/-! looks in a row -/
def okAt (N : Nat) (offs : List Int) (f : Nat) : Bool := offs.all fun o => decide (0 ≤ (f : Int) + o) && decide ((f : Int) + o < (N : Int))
def firstsM (N : Nat) (offs : List Int) : List Nat := (List.range N).filter (okAt N offs)
def runM (F : List Str) (offs : List Int) (f : Nat) : List Str := offs.map fun o => F.getD ((f : Int) + o).toNat PySem.Str.empty
def runsM (F : List Str) (offs : List Int) : List (List Str) := (firstsM F.length offs).map (runM F offs)
def offsM (s : Int) (many : Nat) : List Int := (List.range many).map fun a : Nat => (a : Int) * s
def goodRuns (F : List Str) (s : Int) (many : Nat) : Bool := !(runsM F (offsM s many)).isEmpty && decide (runsM F (offsM s many)).Nodup
def neededM (F : List Str) (s : Int) : Option Nat := ((List.range F.length).map (· + 1)).find? (goodRuns F s)
def optV : Option Nat → V
  | none => .non
  | some n => .int (n : Int)
abbrev intsV (ns : List Int) : List V := ns.map V.int
def spFirsts (K : PySem.W.Frag) : Sp := fun vs H Q _ => ∃ (o : Addr) (N : Nat) (offs : List Int), vs = [.int (N : Int), .ref o] ∧ SqL K H o (intsV offs) ∧ N ≤ 1000 ∧ offs.length ≤ 1000 ∧ RetL ((firstsM N offs).map fun f : Nat => V.int (f : Int)) H Q
def spRuns (K : PySem.W.Frag) : Sp := fun vs H Q _ => ∃ (a o : Addr) (F : List Str) (offs : List Int), vs = [.ref a, .ref o] ∧ SqL K H a (F.map V.str) ∧ SqL K H o (intsV offs) ∧ F.length ≤ 60 ∧ offs.length ≤ 100 ∧
  ∀ p H', H p = none → Ex H H' → LTup H' p ((runsM F offs).map fun k => k.map V.str) → Q (.ref p) H'
def spUnlikeT : Sp := fun vs H Q _ => ∃ (a : Addr) (kss : List (List Str)), vs = [.ref a] ∧ LTup H a (kss.map fun k => k.map V.str) ∧ kss.length < 64 ∧ RetV (.bl (decide kss.Nodup)) H Q
def spUnlikeA (K : PySem.W.Frag) : Sp := fun vs H Q E => spUnlike K vs H Q E ∨ spUnlikeT vs H Q E
def spNeeded (K : PySem.W.Frag) : Sp := fun vs H Q _ => ∃ (a : Addr) (F : List Str) (s : Int), vs = [.ref a, .int s] ∧ SqL K H a (F.map V.str) ∧ F.length ≤ 60 ∧ 1 ≤ s ∧ s ≤ 12 ∧ RetV (optV (neededM F s)) H Q
def spStepsN : Sp := fun vs H Q _ => ∃ row m : Str, vs = [.str row, .str m] ∧ isRow row = true ∧ isMask m = true ∧ RetV (optV (neededM (viewsM row m) 1)) H Q
section
variable {P : Program} {w : World} {K : PySem.W.Frag} {mg : Str → Option Value} {base : Heap} {CM CR CV CG fG CK fK a_SMALL_WIDTH a_SMALL_SEEN : Addr}
end
end K01
namespace K01
open PySem PySem.Spec PyProof.Rows L2 Evl Qt PySem.W
/-! looks by steps -/
def sumsM (ns : List Int) : List Int := (List.range (ns.length + 1)).map fun i => (ns.take i).sum
def startsM (F zs : List Str) (offs : List Int) : List Nat := (firstsM F.length offs).filter fun f => (List.range offs.length).all fun i => decide (missM (F.getD ((f : Int) + offs.getD i 0).toNat PySem.Str.empty) (zs.getD i PySem.Str.empty) = 0)
def sumsTo (ns : List Int) (i : Nat) : List Int := (List.range (i + 1)).map fun j => (ns.take j).sum
def spFits : Sp := fun vs H Q _ => ∃ x y : Str, vs = [.str x, .str y] ∧ y.length = x.length ∧ x.length ≤ 1000 ∧ RetV (.bl (decide (missM x y = 0))) H Q
def spLooksC (K : PySem.W.Frag) : Sp := fun vs H Q _ => ∃ (a : Addr) (m : Str) (zs : List Str), vs = [.ref a, .str m] ∧ m.length ≤ 12 ∧ SqA K H a (zs.map V.str) ∧ 1 ≤ zs.length ∧ zs.length ≤ 60 ∧ (∀ z ∈ zs, isLook m (.str z) = true) ∧ RetV .non H Q
def spStepsC (K : PySem.W.Frag) : Sp := fun vs H Q _ => ∃ (a : Addr) (lo hi : Int) (ns : List Int), vs = [.ref a, .int lo, .int hi] ∧ SqA K H a (intsV ns) ∧ lo ≤ (ns.length : Int) ∧ (ns.length : Int) ≤ hi ∧ ns.length ≤ 100 ∧ (∀ n ∈ ns, -12 ≤ n ∧ n ≤ 12) ∧ RetV .non H Q
def spStarts (K : PySem.W.Frag) : Sp := fun vs H Q _ => ∃ (a l o : Addr) (F zs : List Str) (offs : List Int), vs = [.ref a, .ref l, .ref o] ∧ SqL K H a (F.map V.str) ∧ SqA K H l (zs.map V.str) ∧ SqL K H o (intsV offs) ∧ zs.length = offs.length ∧ offs.length ≤ 100 ∧ F.length ≤ 60 ∧
  (∀ x ∈ F, x.length ≤ 1000 ∧ ∀ z ∈ zs, z.length = x.length) ∧ RetL ((startsM F zs offs).map fun f : Nat => V.int (f : Int)) H Q
def spOffsets (K : PySem.W.Frag) : Sp := fun vs H Q _ => ∃ (a : Addr) (ns : List Int), vs = [.ref a] ∧ SqA K H a (intsV ns) ∧ ns.length ≤ 1000 ∧ RetL (intsV (sumsM ns)) H Q
def spStartsBy (K : PySem.W.Frag) : Sp := fun vs H Q _ => ∃ (row m : Str) (l s : Addr) (zs : List Str) (ns : List Int), vs = [.str row, .str m, .ref l, .ref s] ∧ isRow row = true ∧ isMask m = true ∧ SqA K H l (zs.map V.str) ∧ SqA K H s (intsV ns) ∧ zs.length = ns.length + 1 ∧ zs.length ≤ 60 ∧
  (∀ z ∈ zs, isLook m (.str z) = true) ∧ (∀ n ∈ ns, -12 ≤ n ∧ n ≤ 12) ∧ RetL ((startsM (viewsM row m) zs (sumsM ns)).map fun f : Nat => V.int (f : Int)) H Q
def spStepsTell (K : PySem.W.Frag) : Sp := fun vs H Q _ => ∃ (row m : Str) (s : Addr) (ns : List Int), vs = [.str row, .str m, .ref s] ∧ isRow row = true ∧ isMask m = true ∧ SqA K H s (intsV ns) ∧ ns.length ≤ 59 ∧ (∀ n ∈ ns, -12 ≤ n ∧ n ≤ 12) ∧ RetV (.bl (decide (runsM (viewsM row m) (sumsM ns)).Nodup)) H Q
def spStrided : Sp := fun vs H Q _ => ∃ (row m : Str) (s : Int), vs = [.str row, .str m, .int s] ∧ isRow row = true ∧ isMask m = true ∧ 1 ≤ s ∧ s ≤ 12 ∧ RetV (optV (neededM (viewsM row m) s)) H Q
section
variable {P : Program} {w : World} {K : PySem.W.Frag} {mg : Str → Option Value} {base : Heap} {CM CR CV CG fG CK fK a_SMALL_WIDTH a_SMALL_SEEN : Addr}
end
end K01
namespace K01
open PySem PySem.Spec PyProof.Rows L2 Evl Qt
/-! ### rows made longer, as lists -/
def vw (l r : List Nat) (i : Nat) : List Nat := l.map fun p => r.getD (i + p) 0
def vws (l : List Nat) (w : Nat) (r : List Nat) : List (List Nat) := (List.range (r.length + 1 - w)).map (vw l r)
/-- in how many places two views differ; views that differ in so many or more -/
def dif (a b : List Nat) : Nat := ((List.range a.length).filter fun i => !decide (b.getD i 0 = a.getD i 0)).length
abbrev ap (far : Nat) (vs : List (List Nat)) : Prop := vs.Pairwise fun a b => far ≤ dif a b
def stp (far : Nat) (sg l : List Nat) (w : Nat) (r : List Nat) : List (List Nat) := (sg.filter fun c => decide (ap far (vws l w (r ++ [c])))).map fun c => r ++ [c]
def gro (far : Nat) (sg l : List Nat) (w : Nat) (r0 : List Nat) : Nat → List (List Nat)
  | 0 => [r0]
  | n + 1 => (gro far sg l w r0 n).flatMap (stp far sg l w)
/-- such rows from the beginning, all views different -/
def lev (sg l : List Nat) (w : Nat) (n : Nat) : List (List Nat) := gro 1 sg l w [] n
theorem dif_self (a : List Nat) : dif a a = 0 := by
  unfold dif
  rw [List.length_eq_zero_iff, List.filter_eq_nil_iff]
  intro i _
  simp
theorem ap_nodup {far : Nat} {vs : List (List Nat)} (h1 : 1 ≤ far) (h : ap far vs) : vs.Nodup := h.imp fun {a b} q e => by
  rw [e, dif_self] at q
  omega
theorem txt_inj {a b : List Nat} (h : txt a = txt b) : a = b := by rw [← txt_l a, ← txt_l b, h]
theorem nodup_le {α : Type} [DecidableEq α] : ∀ (a D : List α), a.Nodup → (∀ x ∈ a, x ∈ D) → a.length ≤ D.length
  | [], _, _, _ => Nat.zero_le _
  | x :: r, D, h, hm => by
    rw [List.nodup_cons] at h
    have hx := hm x List.mem_cons_self
    have z := nodup_le r (D.erase x) h.2 fun y hy => (List.mem_erase_of_ne fun e : y = x => h.1 (by rw [← e]; exact hy)).mpr (hm y (List.mem_cons_of_mem _ hy))
    rw [List.length_erase_of_mem hx] at z
    have := List.length_pos_of_mem hx
    rw [List.length_cons]
    omega
theorem getD_app {r : List Nat} {c i : Nat} (h : i < r.length) : (r ++ [c]).getD i 0 = r.getD i 0 := by
  rw [List.getD_eq_getElem?_getD, List.getD_eq_getElem?_getD, List.getElem?_append_left h]
theorem vws_snoc {l r : List Nat} {w c : Nat} (hl : ∀ p ∈ l, p < w) : vws l w (r ++ [c]) = vws l w r ++ (if w ≤ r.length + 1 then [vw l (r ++ [c]) (r.length + 1 - w)] else []) := by
  have old : ∀ i, i < r.length + 1 - w → vw l (r ++ [c]) i = vw l r i := fun i hi => List.map_congr_left fun p hp => getD_app (by have := hl p hp; omega)
  have e : (r ++ [c]).length + 1 - w = r.length + 1 + 1 - w := by rw [List.length_append]; rfl
  unfold vws
  rw [e]
  by_cases h : w ≤ r.length + 1
  · rw [if_pos h, show r.length + 1 + 1 - w = (r.length + 1 - w) + 1 by omega, List.range_succ, List.map_append]
    refine congrArg (· ++ _) (List.map_congr_left fun i hi => old i (List.mem_range.mp hi))
  · rw [if_neg h, List.append_nil, show r.length + 1 + 1 - w = 0 by omega, show r.length + 1 - w = 0 by omega]
    rfl
theorem vws_nil {l : List Nat} {w : Nat} (h : 1 ≤ w) : vws l w [] = [] := by
  unfold vws
  rw [show ([] : List Nat).length + 1 - w = 0 by simp; omega]
  rfl
theorem stp_mem {far : Nat} {sg l r u : List Nat} {w : Nat} : u ∈ stp far sg l w r ↔ ∃ c, c ∈ sg ∧ ap far (vws l w (r ++ [c])) ∧ u = r ++ [c] := by
  unfold stp
  rw [List.mem_map]
  constructor
  · rintro ⟨c, hc, rfl⟩
    obtain ⟨c1, c2⟩ := List.mem_filter.mp hc
    exact ⟨c, c1, of_decide_eq_true c2, rfl⟩
  · rintro ⟨c, h1, h2, rfl⟩
    exact ⟨c, List.mem_filter.mpr ⟨h1, decide_eq_true h2⟩, rfl⟩
/-- what stands in a level: the rows so long that begin with r0, of these signs, their views apart -/
theorem gro_each {far : Nat} {sg l r0 : List Nat} {w n : Nat} {r : List Nat} (hs : ∀ c ∈ r0, c ∈ sg) (h0 : ap far (vws l w r0)) (h : r ∈ gro far sg l w r0 n) : r.length = r0.length + n ∧ (∀ c ∈ r, c ∈ sg) ∧ ap far (vws l w r) := by
  induction n generalizing r with
  | zero =>
    have : r = r0 := by simpa [gro] using h
    subst this
    exact ⟨rfl, hs, h0⟩
  | succ n ih =>
    unfold gro at h
    obtain ⟨u, hu, hr⟩ := List.mem_flatMap.mp h
    obtain ⟨c, c1, c2, rfl⟩ := stp_mem.mp hr
    obtain ⟨h1, h2, h3⟩ := ih hu
    refine ⟨by rw [List.length_append, h1]; rfl, fun d hd => ?_, c2⟩
    rcases List.mem_append.mp hd with z | z
    · exact h2 d z
    · rw [List.mem_singleton.mp z]; exact c1
theorem stp_len (far : Nat) (sg l : List Nat) (w : Nat) (r : List Nat) : (stp far sg l w r).length ≤ sg.length := by
  unfold stp
  rw [List.length_map]
  exact List.length_filter_le _ _
theorem flat_le {α β : Type} (f : α → List β) (k : Nat) (h : ∀ x, (f x).length ≤ k) : ∀ xs : List α, (xs.flatMap f).length ≤ xs.length * k
  | [] => by simp
  | x :: r => by
    rw [List.flatMap_cons, List.length_append, List.length_cons, Nat.succ_mul]
    have := flat_le f k h r
    have := h x
    omega
theorem gro_len (far : Nat) (sg l : List Nat) (w : Nat) (r0 : List Nat) (n : Nat) : (gro far sg l w r0 n).length ≤ sg.length ^ n := by
  induction n with
  | zero => exact Nat.le_refl _
  | succ n ih =>
    unfold gro
    rw [Nat.pow_succ]
    exact Nat.le_trans (flat_le _ _ (stp_len far sg l w) _) (Nat.mul_le_mul_right _ ih)
theorem lev_each {sg l : List Nat} {w n : Nat} {r : List Nat} (hw : 1 ≤ w) (h : r ∈ lev sg l w n) : r.length = n ∧ (∀ c ∈ r, c ∈ sg) ∧ (vws l w r).Nodup := by
  obtain ⟨h1, h2, h3⟩ := gro_each (far := 1) (fun c hc => (by cases hc)) (by rw [vws_nil hw]; exact .nil) h
  exact ⟨by rw [h1]; simp, h2, ap_nodup (Nat.le_refl _) h3⟩
/-! ### words -/
def wordsL (sg : List Nat) : Nat → List (List Nat)
  | 0 => [[]]
  | n + 1 => (wordsL sg n).flatMap fun w => sg.map fun c => w ++ [c]
def tS (l : List (List Nat)) : List V := l.map fun w => V.str (txt w)
theorem tS_len (l : List (List Nat)) : (tS l).length = l.length := List.length_map ..
theorem tS_get {l : List (List Nat)} {i : Nat} {x : V} (h : (tS l)[i]? = some x) : i < l.length ∧ x = .str (txt (l.getD i [])) := by
  unfold tS at h
  rw [List.getElem?_map] at h
  cases e : l[i]? with
  | none => rw [e] at h; cases h
  | some c =>
    rw [e] at h
    refine ⟨(List.getElem?_eq_some_iff.mp e).1, ?_⟩
    rw [List.getD_eq_getElem?_getD, e]
    exact (Option.some.inj h).symm
theorem words_len (sg : List Nat) (n : Nat) : (wordsL sg n).length = sg.length ^ n := by
  induction n with
  | zero => rfl
  | succ n ih =>
    unfold wordsL
    rw [List.length_flatMap]
    simp only [List.length_map]
    rw [List.map_const', List.sum_replicate_nat, ih, Nat.pow_succ]
theorem words_each {sg : List Nat} {n : Nat} {w : List Nat} (h : w ∈ wordsL sg n) : w.length = n ∧ ∀ c ∈ w, c ∈ sg := by
  induction n generalizing w with
  | zero =>
    have : w = [] := by simpa [wordsL] using h
    subst this
    exact ⟨rfl, fun c hc => by cases hc⟩
  | succ n ih =>
    unfold wordsL at h
    obtain ⟨u, hu, hw⟩ := List.mem_flatMap.mp h
    obtain ⟨c, hc, rfl⟩ := List.mem_map.mp hw
    obtain ⟨h1, h2⟩ := ih hu
    refine ⟨by rw [List.length_append, h1]; rfl, fun d hd => ?_⟩
    rcases List.mem_append.mp hd with z | z
    · exact h2 d z
    · rw [List.mem_singleton.mp z]; exact hc
theorem words_mem {sg : List Nat} : ∀ (n : Nat) (u : List Nat), u.length = n → (∀ c ∈ u, c ∈ sg) → u ∈ wordsL sg n
  | 0, u, h, _ => by
    have : u = [] := List.length_eq_zero_iff.mp h
    subst this
    simp [wordsL]
  | n + 1, u, h, hc => by
    have hne : u ≠ [] := fun e => by rw [e] at h; cases h
    have e := List.dropLast_concat_getLast hne
    unfold wordsL
    refine List.mem_flatMap.mpr ⟨u.dropLast, words_mem n _ (by rw [List.length_dropLast, h]; rfl) (fun c hcd => hc c (List.dropLast_subset _ hcd)), List.mem_map.mpr ⟨u.getLast hne, hc _ (List.getLast_mem hne), e⟩⟩
theorem vw_in {sg l r : List Nat} {w i : Nat} (hl : ∀ p ∈ l, p < w) (hr : ∀ c ∈ r, c ∈ sg) (hi : i + w ≤ r.length) : vw l r i ∈ wordsL sg l.length := by
  refine words_mem _ _ (by unfold vw; rw [List.length_map]) fun c hc => ?_
  unfold vw at hc
  obtain ⟨p, hp, rfl⟩ := List.mem_map.mp hc
  have := hl p hp
  rw [List.getD_eq_getElem?_getD, List.getElem?_eq_getElem (by omega)]
  exact hr _ (List.getElem_mem _)
theorem words_nodup {sg : List Nat} (h : sg.Nodup) : ∀ n, (wordsL sg n).Nodup
  | 0 => by simp [wordsL]
  | n + 1 => by
    unfold wordsL List.Nodup
    rw [List.pairwise_flatMap]
    refine ⟨fun u _ => ?_, (words_nodup h n).imp fun {a b} hne x hx y hy e => ?_⟩
    · rw [List.pairwise_map]
      exact h.imp fun hne e => hne (by simpa using e)
    · obtain ⟨c, _, rfl⟩ := List.mem_map.mp hx
      obtain ⟨d, _, rfl⟩ := List.mem_map.mp hy
      exact hne (List.append_inj_left' e rfl)
theorem gro_top {far : Nat} {sg l r0 : List Nat} {w n : Nat} {r : List Nat} (h1 : 1 ≤ far) (hl : ∀ p ∈ l, p < w) (hw : 1 ≤ w) (hs : ∀ c ∈ r0, c ∈ sg) (h0 : ap far (vws l w r0)) (h : r ∈ gro far sg l w r0 n) : r0.length + n + 1 - w ≤ sg.length ^ l.length := by
  obtain ⟨g1, g2, g3⟩ := gro_each hs h0 h
  have z := nodup_le (vws l w r) (wordsL sg l.length) (ap_nodup h1 g3) fun v hv => by
    unfold vws at hv
    obtain ⟨i, hi, rfl⟩ := List.mem_map.mp hv
    have := List.mem_range.mp hi
    exact vw_in hl g2 (by omega)
  rw [words_len] at z
  unfold vws at z
  rw [List.length_map, List.length_range, g1] at z
  exact z
theorem gro_end {far : Nat} {sg l r0 : List Nat} {w n : Nat} (h1 : 1 ≤ far) (hl : ∀ p ∈ l, p < w) (hw : 1 ≤ w) (hs : ∀ c ∈ r0, c ∈ sg) (h0 : ap far (vws l w r0)) (h : sg.length ^ l.length + w ≤ r0.length + n) : gro far sg l w r0 n = [] := by
  cases e : gro far sg l w r0 n with
  | nil => rfl
  | cons r t =>
    have := gro_top (r := r) (n := n) (sg := sg) h1 hl hw hs h0 (by rw [e]; exact List.mem_cons_self)
    omega
theorem gro_dead {far : Nat} {sg l r0 : List Nat} {w n k : Nat} (h : gro far sg l w r0 n = []) (hk : n ≤ k) : gro far sg l w r0 k = [] := by
  induction hk with
  | refl => exact h
  | step _ ih =>
    show (gro far sg l w r0 _).flatMap _ = []
    rw [ih]
    rfl
def IsTopF (far : Nat) (sg l : List Nat) (w : Nat) (r0 : List Nat) (n : Nat) : Prop := gro far sg l w r0 n ≠ [] ∧ gro far sg l w r0 (n + 1) = []
theorem topF_one {far : Nat} {sg l r0 : List Nat} {w n k : Nat} (a : IsTopF far sg l w r0 n) (b : IsTopF far sg l w r0 k) : n = k := by
  rcases Nat.lt_trichotomy n k with h | h | h
  · exact absurd (gro_dead a.2 h) b.1
  · exact h
  · exact absurd (gro_dead b.2 h) a.1
theorem topF_lt {far : Nat} {sg l r0 : List Nat} {w n : Nat} (h1 : 1 ≤ far) (hl : ∀ p ∈ l, p < w) (hw : 1 ≤ w) (hs : ∀ c ∈ r0, c ∈ sg) (h0 : ap far (vws l w r0)) (a : gro far sg l w r0 n ≠ []) : r0.length + n < sg.length ^ l.length + w := by
  rcases Nat.lt_or_ge (r0.length + n) (sg.length ^ l.length + w) with h | h
  · exact h
  · exact absurd (gro_end h1 hl hw hs h0 h) a
theorem gro_small {far : Nat} {sg l r0 : List Nat} {w : Nat} (h1 : 1 ≤ far) (hl : ∀ p ∈ l, p < w) (hw : 1 ≤ w) (hs : ∀ c ∈ r0, c ∈ sg) (h0 : ap far (vws l w r0)) (n : Nat) (hs1 : 1 ≤ sg.length) (hB : sg.length ^ (sg.length ^ l.length + w - 1) ≤ 8388608) : (gro far sg l w r0 n).length ≤ 8388608 := by
  rcases Nat.lt_or_ge (r0.length + n) (sg.length ^ l.length + w) with h | h
  · exact Nat.le_trans (gro_len far sg l w r0 n) (Nat.le_trans (Nat.pow_le_pow_right hs1 (by omega)) hB)
  · rw [gro_end h1 hl hw hs h0 h]
    exact Nat.zero_le _
def IsTop (sg l : List Nat) (w n : Nat) : Prop := lev sg l w n ≠ [] ∧ lev sg l w (n + 1) = []
theorem top_one {sg l : List Nat} {w n k : Nat} (a : IsTop sg l w n) (b : IsTop sg l w k) : n = k := topF_one a b
theorem ap_nil {far : Nat} {l : List Nat} {w : Nat} (hw : 1 ≤ w) : ap far (vws l w []) := by
  rw [vws_nil hw]
  exact .nil
theorem no_mem {sg : List Nat} : ∀ c ∈ ([] : List Nat), c ∈ sg := fun c hc => by cases hc
theorem top_lt {sg l : List Nat} {w n : Nat} (hw : 1 ≤ w) (hl : ∀ p ∈ l, p < w) (a : lev sg l w n ≠ []) : n < sg.length ^ l.length + w := by
  have z := topF_lt (Nat.le_refl 1) hl hw no_mem (ap_nil hw) a
  simpa using z
theorem lev_end {sg l : List Nat} {w n : Nat} (hw : 1 ≤ w) (hl : ∀ p ∈ l, p < w) (h : sg.length ^ l.length + w ≤ n) : lev sg l w n = [] := gro_end (Nat.le_refl 1) hl hw no_mem (ap_nil hw) (by simpa using h)
/-! ### the bits of views -/
def barK (p : Nat → Bool) : Nat → Nat
  | 0 => 0
  | k + 1 => barK p k + (if p k = true then 2 ^ k else 0)
theorem barK_lt (p : Nat → Bool) : ∀ k, barK p k < 2 ^ k
  | 0 => by simp [barK]
  | k + 1 => by
    have := barK_lt p k
    unfold barK
    rw [Nat.pow_succ]
    split <;> omega
theorem barK_bit (p : Nat → Bool) (j : Nat) : ∀ k, (barK p k).testBit j = (decide (j < k) && p j)
  | 0 => by simp [barK]
  | k + 1 => by
    have hl := barK_lt p k
    have ih := barK_bit p j k
    unfold barK
    by_cases hp : p k = true
    · rw [if_pos hp]
      have e : barK p k + 2 ^ k = 2 ^ k ||| barK p k := by
        have z := Nat.two_pow_add_eq_or_of_lt hl 1
        rw [Nat.mul_one] at z
        rw [← z, Nat.add_comm]
      rw [e, Nat.testBit_or, Nat.testBit_two_pow, ih]
      by_cases hj : k = j
      · subst hj
        simp [hp]
      · rw [decide_eq_false hj, Bool.false_or]
        congr 1
        exact decide_eq_decide.mpr (by omega)
    · rw [if_neg hp, Nat.add_zero, ih]
      by_cases hj : j = k
      · subst hj
        simp [hp]
      · congr 1
        exact decide_eq_decide.mpr (by omega)
/-- the views that one bars, as bits: VS are all views in their order -/
def barN (far : Nat) (VS : List (List Nat)) (v : List Nat) : Nat := barK (fun i => decide (dif v (VS.getD i []) < far)) VS.length
theorem bar_bit {far : Nat} {VS : List (List Nat)} {v u : List Nat} (hu : u ∈ VS) : (barN far VS v).testBit (VS.idxOf u) = decide (dif v u < far) := by
  unfold barN
  have h := List.idxOf_lt_length_iff.mpr hu
  rw [barK_bit, decide_eq_true h, Bool.true_and, List.getD_eq_getElem?_getD, List.getElem?_eq_getElem h]
  show decide (dif v VS[VS.idxOf u] < far) = _
  rw [List.getElem_idxOf h]
/-- what the views of a row bar -/
def brs (far : Nat) (VS vs : List (List Nat)) : Nat := vs.foldl (fun a v => a ||| barN far VS v) 0
theorem brs_snoc (far : Nat) (VS vs : List (List Nat)) (v : List Nat) : brs far VS (vs ++ [v]) = brs far VS vs ||| barN far VS v := by
  unfold brs
  rw [List.foldl_append]
  rfl
theorem brs_go (far : Nat) (VS : List (List Nat)) (j : Nat) : ∀ (vs : List (List Nat)) (a : Nat), (vs.foldl (fun a v => a ||| barN far VS v) a).testBit j = true ↔ a.testBit j = true ∨ ∃ v ∈ vs, (barN far VS v).testBit j = true
  | [], a => by simp
  | v :: vs, a => by
    rw [List.foldl_cons, brs_go far VS j vs, Nat.testBit_or, Bool.or_eq_true]
    constructor
    · rintro ((h | h) | ⟨u, hu, h⟩)
      · exact .inl h
      · exact .inr ⟨v, List.mem_cons_self, h⟩
      · exact .inr ⟨u, List.mem_cons_of_mem _ hu, h⟩
    · rintro (h | ⟨u, hu, h⟩)
      · exact .inl (.inl h)
      · rcases List.mem_cons.mp hu with e | e
        · exact .inl (.inr (e ▸ h))
        · exact .inr ⟨u, e, h⟩
theorem and_pow (x i : Nat) : x &&& 2 ^ i = 0 ↔ x.testBit i = false := by
  constructor
  · intro h
    have z := congrArg (Nat.testBit · i) h
    simp only [Nat.testBit_and, Nat.testBit_two_pow, Nat.zero_testBit, decide_true, Bool.and_true] at z
    exact z
  · intro h
    apply Nat.eq_of_testBit_eq
    intro j
    rw [Nat.testBit_and, Nat.testBit_two_pow, Nat.zero_testBit]
    by_cases e : i = j
    · rw [← e, h]; rfl
    · rw [decide_eq_false e, Bool.and_false]
/-- the bit of the view that a last letter makes, and what it bars -/
def bt (VS : List (List Nat)) (l : List Nat) (w : Nat) (r : List Nat) : Nat := if w ≤ r.length then 2 ^ VS.idxOf (vw l r (r.length - w)) else 0
def nr (far : Nat) (VS : List (List Nat)) (l : List Nat) (w : Nat) (r : List Nat) : Nat := if w ≤ r.length then barN far VS (vw l r (r.length - w)) else 0
theorem brs_step {far : Nat} {VS : List (List Nat)} {l r : List Nat} {w c : Nat} (hl : ∀ p ∈ l, p < w) : brs far VS (vws l w (r ++ [c])) = brs far VS (vws l w r) ||| nr far VS l w (r ++ [c]) := by
  have e : (r ++ [c]).length = r.length + 1 := by simp
  rw [vws_snoc hl]
  unfold nr
  rw [e]
  by_cases h : w ≤ r.length + 1
  · rw [if_pos h, if_pos h, brs_snoc]
  · rw [if_neg h, if_neg h, List.append_nil, Nat.or_zero]
theorem fits {far : Nat} {sg l r : List Nat} {w c : Nat} (hl : ∀ p ∈ l, p < w) (hd : ap far (vws l w r)) (hr : ∀ d ∈ r ++ [c], d ∈ sg) :
    brs far (wordsL sg l.length) (vws l w r) &&& bt (wordsL sg l.length) l w (r ++ [c]) = 0 ↔ ap far (vws l w (r ++ [c])) := by
  have e : (r ++ [c]).length = r.length + 1 := by simp
  rw [vws_snoc hl]
  unfold bt
  rw [e]
  by_cases h : w ≤ r.length + 1
  · rw [if_pos h, if_pos h, and_pow]
    have hin : vw l (r ++ [c]) (r.length + 1 - w) ∈ wordsL sg l.length := vw_in hl hr (by rw [e]; omega)
    obtain ⟨v', hv'⟩ : ∃ v', vw l (r ++ [c]) (r.length + 1 - w) = v' := ⟨_, rfl⟩
    rw [hv'] at hin ⊢
    unfold ap
    rw [List.pairwise_append]
    have key : (brs far (wordsL sg l.length) (vws l w r)).testBit ((wordsL sg l.length).idxOf v') = true ↔ ∃ v ∈ vws l w r, dif v v' < far := by
      unfold brs
      rw [brs_go]
      simp only [Nat.zero_testBit, Bool.false_eq_true, false_or]
      refine exists_congr fun v => and_congr_right fun _ => ?_
      rw [bar_bit hin, decide_eq_true_iff]
    constructor
    · intro z
      refine ⟨hd, by simp, fun a ha b hb => ?_⟩
      rw [List.mem_singleton.mp hb]
      refine Nat.le_of_not_lt fun q => ?_
      have := key.mpr ⟨a, ha, q⟩
      rw [z] at this
      cases this
    · rintro ⟨_, _, z⟩
      cases q : (brs far (wordsL sg l.length) (vws l w r)).testBit ((wordsL sg l.length).idxOf v') with
      | false => rfl
      | true =>
        obtain ⟨v, hv, hlt⟩ := key.mp q
        have := z v hv v' (List.mem_singleton.mpr rfl)
        omega
  · rw [if_neg h, if_neg h, List.append_nil, Nat.and_zero]
    exact ⟨fun _ => hd, fun _ => rfl⟩
theorem and_nat (a b : Nat) : Builtin.bitAnd (a : Int) (b : Int) = ((a &&& b : Nat) : Int) := by
  unfold Builtin.bitAnd
  rw [decide_eq_true (Int.natCast_nonneg a), decide_eq_true (Int.natCast_nonneg b)]
  rfl
theorem or_nat (a b : Nat) : Builtin.bitOr (a : Int) (b : Int) = ((a ||| b : Nat) : Int) := by
  unfold Builtin.bitOr Builtin.bitAnd Builtin.bitNot
  rw [decide_eq_false (show ¬ (0 : Int) ≤ -(a : Int) - 1 by omega), decide_eq_false (show ¬ (0 : Int) ≤ -(b : Int) - 1 by omega)]
  show -(-((((-(-(a : Int) - 1) - 1).toNat ||| (-(-(b : Int) - 1) - 1).toNat : Nat)) : Int) - 1) - 1 = _
  rw [show (-(-(a : Int) - 1) - 1).toNat = a by omega, show (-(-(b : Int) - 1) - 1).toNat = b by omega]
  omega
/-- the heap's pairs of rows and what they bar -/
inductive Prs (B : List Nat → Nat) (H : Hp) : List V → List (List Nat) → Prop
  | nil : Prs B H [] []
  | snoc {xs : List V} {rs : List (List Nat)} {t : Addr} {r : List Nat} : Prs B H xs rs → H t = some (.tup [.str (txt r), .int ((B r : Nat) : Int)]) → Prs B H (xs ++ [.ref t]) (rs ++ [r])
theorem Prs.ex {B : List Nat → Nat} {H H1 : Hp} {xs : List V} {rs : List (List Nat)} (h : Prs B H xs rs) (e : Ex H H1) : Prs B H1 xs rs := by
  induction h with
  | nil => exact .nil
  | snoc _ ht ih => exact .snoc ih (e _ _ ht)
theorem Prs.len {B : List Nat → Nat} {H : Hp} {xs : List V} {rs : List (List Nat)} (h : Prs B H xs rs) : xs.length = rs.length := by
  induction h with
  | nil => rfl
  | snoc _ _ ih => rw [List.length_append, List.length_append, ih]; rfl
theorem Prs.get {B : List Nat → Nat} {H : Hp} {xs : List V} {rs : List (List Nat)} (h : Prs B H xs rs) {i : Nat} {x : V} (hx : xs[i]? = some x) :
    ∃ t, rs[i]? = some (rs.getD i []) ∧ x = .ref t ∧ H t = some (.tup [.str (txt (rs.getD i [])), .int ((B (rs.getD i []) : Nat) : Int)]) := by
  induction h with
  | nil => cases hx
  | @snoc xs rs t r h ht ih =>
    have e := h.len
    rcases Nat.lt_or_ge i xs.length with hi | hi
    · rw [List.getElem?_append_left hi] at hx
      obtain ⟨t', h1, h2, h3⟩ := ih hx
      have g : (rs ++ [r]).getD i [] = rs.getD i [] := by
        rw [List.getD_eq_getElem?_getD, List.getD_eq_getElem?_getD, List.getElem?_append_left (by omega)]
      rw [g, List.getElem?_append_left (by omega)]
      exact ⟨t', h1, h2, h3⟩
    · have hi2 := (List.getElem?_eq_some_iff.mp hx).1
      rw [List.length_append, List.length_singleton] at hi2
      obtain rfl : i = xs.length := by omega
      rw [List.getElem?_append_right (Nat.le_refl _), Nat.sub_self] at hx
      have g : (rs ++ [r]).getD xs.length [] = r := by
        rw [List.getD_eq_getElem?_getD, List.getElem?_append_right (by omega), e, Nat.sub_self]
        rfl
      rw [g, List.getElem?_append_right (by omega), e, Nat.sub_self]
      exact ⟨t, rfl, (Option.some.inj hx).symm, ht⟩
end K01
namespace K01
open PySem PySem.Spec PyProof.Rows L2 Evl Qt
def spWords : Sp := fun vs H Q _ => ∃ (z : Str) (n : Nat), vs = [.str z, .int (n : Int)] ∧ 1 ≤ z.length ∧ z.length ≤ 4 ∧ n ≤ 12 ∧ z.length ^ n ≤ 1100 ∧ RetL (tS (wordsL z.cps.toList n)) H Q
theorem txt_snoc (a : List Nat) (c : Nat) : txt a ++ (⟨#[c]⟩ : Str) = txt (a ++ [c]) := by
  apply str_ext
  rw [str_app, txt_l, txt_l]
theorem words_step (sg : List Nat) (n : Nat) : given2 (fun _ => sg.length) (fun i m => V.str (txt ((wordsL sg n).getD i []) ++ (⟨#[sg.getD m 0]⟩ : Str))) (wordsL sg n).length = tS (wordsL sg (n + 1)) := by
  unfold given2 tS
  conv => rhs; unfold wordsL
  rw [List.map_flatMap]
  rw [← range_flat_getD (wordsL sg n) []]
  refine congrArg (fun f => List.flatMap f (List.range (wordsL sg n).length)) (funext fun i => ?_)
  rw [List.map_map, ← range_map_getD sg 0]
  refine List.map_congr_left fun m _ => ?_
  show V.str _ = V.str _
  rw [txt_snoc]
theorem nil_txt : PySem.Str.ofString "" = txt [] := by decide +kernel
def ksT (u : List Nat) : Key := Sum.inr (txt u)
theorem ks_inj {u v : List Nat} (h : ksT u = ksT v) : u = v := by
  unfold ksT at h
  injection h with h
  exact txt_inj h
/-- the dict of windows: with each the bit of its view and what it bars -/
def BitsTo (far : Nat) (sg l : List Nat) (w : Nat) (kvs : List (Key × V)) (H : Hp) : Prop :=
  ∀ u : List Nat, (u ∈ wordsL sg w → ∃ t, valV kvs (ksT u) = some (.ref t) ∧ H t = some (.tup [.int ((2 ^ (wordsL sg l.length).idxOf (vw l u 0) : Nat) : Int), .int ((barN far (wordsL sg l.length) (vw l u 0) : Nat) : Int)])) ∧ (u ∉ wordsL sg w → valV kvs (ksT u) = none)
theorem BitsTo.ex {far : Nat} {sg l : List Nat} {w : Nat} {kvs : List (Key × V)} {H H1 : Hp} (h : BitsTo far sg l w kvs H) (e : Ex H H1) : BitsTo far sg l w kvs H1 := fun u =>
  ⟨fun hu => by
    obtain ⟨t, a, b⟩ := (h u).1 hu
    exact ⟨t, a, e _ _ b⟩, (h u).2⟩
def spNearBits : Sp := fun vs H Q _ => ∃ (d : Addr) (od : Obj) (VS : List (List Nat)) (v : List Nat) (far k : Nat), vs = [.ref d, .str (txt v), .int (far : Int)] ∧ H d = some (.frz od (.dK ((List.range VS.length).map fun i => (ksT (VS.getD i []), V.int ((2 ^ i : Nat) : Int))))) ∧ VS.length ≤ 2000 ∧ k ≤ 1000 ∧
  (∀ u ∈ VS, u.length = k ∧ ∀ c ∈ u, c < 128 ∧ c ≠ 63) ∧ VS.Nodup ∧ v.length = k ∧ RetV (.int ((barN far VS v : Nat) : Int)) H Q
def spBits (K : PySem.W.Frag) : Sp := fun vs H Q _ => ∃ (m z : Str) (far : Nat), vs = [.str m, .str z, .int (far : Int)] ∧ isMask m = true ∧ 1 ≤ z.length ∧ z.length ≤ 4 ∧ z.length ^ m.length ≤ 1100 ∧ z.cps.toList.Nodup ∧ (∀ c ∈ z.cps.toList, c < 128 ∧ c ≠ 63) ∧
  ∀ d kvs H', Ex H H' → H d = none → H' d = some (.dK kvs) → BitsTo far z.cps.toList (openM m) m.length kvs H' → Q (.ref d) H'
theorem view_txt (u l : List Nat) : viewM (txt u) l 0 = txt (vw l u 0) := by
  unfold viewM vw
  rw [txt_l]
theorem miss_dif {v u : List Nat} (h : ∀ c ∈ u, c ≠ 63) (hl : u.length = v.length) : missM (txt v) (txt u) = dif v u := by
  unfold missM dif
  rw [txt_len]
  congr 1
  refine List.filter_congr fun i hi => ?_
  have hi' := List.mem_range.mp hi
  unfold missB
  rw [txt_l, txt_l]
  have : u.getD i 0 ≠ 63 := h _ (by
    rw [List.getD_eq_getElem?_getD, List.getElem?_eq_getElem (by omega)]
    exact List.getElem_mem _)
  rw [decide_eq_false this]
  rfl
theorem sum_bar (p : Nat → Bool) : ∀ n : Nat, (((List.range n).filter p).map fun i => ((2 ^ i : Nat) : Int)).sum = ((barK p n : Nat) : Int)
  | 0 => rfl
  | n + 1 => by
    rw [List.range_succ, List.filter_append, List.map_append, List.sum_append, sum_bar p n]
    show _ = ((barK p n + (if p n = true then 2 ^ n else 0) : Nat) : Int)
    by_cases h : p n = true
    · rw [List.filter_cons_of_pos h, if_pos h]
      simp
    · rw [List.filter_cons_of_neg h, if_neg h]
      simp
theorem nd_ne {L : List (List Nat)} (hL : L.Nodup) {a b : Nat} (hab : a < b) (hb : b < L.length) : ksT (L.getD a []) ≠ ksT (L.getD b []) := fun e => by
  have := ks_inj e
  rw [List.getD_eq_getElem?_getD, List.getD_eq_getElem?_getD, List.getElem?_eq_getElem (by omega), List.getElem?_eq_getElem hb] at this
  exact List.pairwise_iff_getElem.mp hL a b (by omega) hb hab this
theorem kvs_at {VS : List (List Nat)} (hd : VS.Nodup) {i : Nat} (hi : i < VS.length) : valV ((List.range VS.length).map fun i => (ksT (VS.getD i []), V.int ((2 ^ i : Nat) : Int))) (ksT (VS.getD i [])) = some (V.int ((2 ^ i : Nat) : Int)) := by
  have D : DRel (fun i v (_ : Hp) => v = V.int ((2 ^ i : Nat) : Int)) (fun i => ksT (VS.getD i [])) VS.length ((List.range VS.length).map fun i => (ksT (VS.getD i []), V.int ((2 ^ i : Nat) : Int))) (fun _ => none) := ⟨by simp, fun i hi => ⟨_, by simp [hi], rfl⟩⟩
  obtain ⟨v, h1, h2⟩ := D.at (fun a b hab hb => nd_ne hd hab hb) i hi
  rw [h1, h2]
theorem kvs_idx {VS : List (List Nat)} (hd : VS.Nodup) {v : List Nat} (hv : v ∈ VS) : valV ((List.range VS.length).map fun i => (ksT (VS.getD i []), V.int ((2 ^ i : Nat) : Int))) (ksT v) = some (V.int ((2 ^ VS.idxOf v : Nat) : Int)) := by
  have hi := List.idxOf_lt_length_iff.mpr hv
  have z := kvs_at hd hi
  rw [List.getD_eq_getElem?_getD, List.getElem?_eq_getElem hi] at z
  have e : (some VS[VS.idxOf v]).getD [] = v := List.getElem_idxOf hi
  rw [e] at z
  exact z
section
variable {P : Program} {w : World} {K : PySem.W.Frag} {mg : Str → Option Value} {base : Heap} {CM CR CV CG fG CK fK a_SMALL_WIDTH a_SMALL_SEEN : Addr}
theorem ok_words (e : Ent K mg "words" s_words p_words) (T : Top K mg CM CR CV CG fG CK fK a_SMALL_WIDTH a_SMALL_SEEN) : Cal P w K mg base CX0 1 "words" p_words spWords := by
  obtain ⟨f, fd, F, m_, b_⟩ := e
  refine ⟨f, fd, F.ok sc_words (fun vs H Q E h => ?_) (fun cdv A outer s H vs Q E hr h => ?_), m_, F.kp, b_⟩
  · obtain ⟨z, n, rfl, _⟩ := h
    rfl
  · obtain ⟨z, n, rfl, h1, h2, h3, h4, q⟩ := h
    refine ⟨_, (pss_cons (ps_set (i := 2) sc_words.nd rfl (Or.inl rfl) (pe_lst (pa_cons pe_str pa_nil)))
      (pss_cons (ps_for PassesOwn.never rfl (pi_range1 (by rfl) T.m_range (pa_cons (pv 1) pa_nil)) (pg_name (i := 3) sc_words.nd rfl (Or.inl rfl)) (pss_one (ps_setLc2 (i := 2) (own := [("word", 4), ("sign", 5)]) (vs1 := [5]) (g := (gName 4)) (g1 := (gName 5)) (by rfl) sc_words.nd rfl rfl (sw_true rfl rfl rfl (by decide +kernel)) (pi_list (pv 2)) (blkOk_by (own := [("word", 4), ("sign", 5)]) (N := n_words) (sc := (defScope s_words)) (by decide +kernel)) (by decide) (fun _ _ _ _ _ => pg_name (i := 4) sc_words.nd rfl (Or.inl rfl)) (fun _ _ _ _ _ => pts_nil) (fun _ _ _ _ _ => by exact (pi_str (pv 0))) (fun _ _ _ _ _ => pg_name (i := 5) sc_words.nd rfl (Or.inl rfl)) (fun _ _ _ _ _ => pts_nil) (fun _ _ _ _ _ => (pe_op op_add_str (pv 4) (pv 5))))))
      (pss_one (ps_ret (pv 2))))), ?_⟩
    refine q_asgL (xs := tS (wordsL z.cps.toList 0)) (el_is (el_lst (ea_cons ev_c ea_nil) (by simp)) (by rw [nil_txt]; rfl)) fun p H1 np e1 hp => ?_
    refine q_forR1 (n := (n : Int)) (j := 3) (ea_cons (ev_var rfl) ea_nil) (by omega) (fun i σ' H' => Ex H H' ∧ ∃ (p : Addr) (x3 x4 x5 : Option V), H p = none ∧ H' p = some (.lst (tS (wordsL z.cps.toList i))) ∧ σ' = [some (.str z), some (.int (n : Int)), some (.ref p), x3, x4, x5])
      (fun H2 e2 => ⟨e1.trans e2, p, _, _, _, np, e2 _ _ hp, rfl⟩) (fun i σ' H' hi hp' => ?_) (fun σ' H' hp' => ?_)
    · obtain ⟨eH, p, x3, x4, x5, np, hp, rfl⟩ := hp'
      have hw : (wordsL z.cps.toList i).length ≤ 1100 := by
        rw [words_len, len_l]
        exact Nat.le_trans (Nat.pow_le_pow_right h1 (by omega)) h4
      refine s_asgL (xs := tS (wordsL z.cps.toList (i + 1))) (el_is (el_lc2LS (xs := tS (wordsL z.cps.toList i)) (z := z) (fun a m => V.str (txt ((wordsL z.cps.toList i).getD a []) ++ (⟨#[z.cps.toList.getD m 0]⟩ : Str))) (ev_var rfl) (sq_of hp) (by rw [tS_len]; omega) (by omega) (fun _ => rfl) (fun _ _ => rfl)
        (fun a y H2 e2 hy => ev_var rfl) (fun a m y H2 e2 hy hm => ?_)) ?_) fun p' H2 np' e2 hp2 => ⟨eH.trans e2, p', _, _, _, fresh_back eH np', hp2, rfl⟩
      · obtain ⟨ha, rfl⟩ := tS_get hy
        refine ev_op (ev_var rfl) (ev_var rfl) (rv_addS ?_)
        have := (words_each (mem_getDL (d := []) ha)).1
        rw [txt_len]
        show _ + 1 ≤ _
        omega
      · rw [tS_len, ← len_l z]
        exact words_step _ _
    · obtain ⟨eH, p, x3, x4, x5, np, hp, rfl⟩ := hp'
      rw [Int.toNat_natCast] at hp
      exact s_ret (ev_var rfl) fun H2 e2 => q p H2 np (eH.trans e2) (e2 _ _ hp)
theorem ok_near_bits (e : Ent K mg "near_bits" s_near_bits p_near_bits) (T : Top K mg CM CR CV CG fG CK fK a_SMALL_WIDTH a_SMALL_SEEN) (c1 : Cal P w K mg base CX0 1 "others" p_others spOthers) : Cal P w K mg base CX0 2 "near_bits" p_near_bits spNearBits := by
  obtain ⟨f, fd, F, m_, b_⟩ := e
  obtain ⟨f_others, fd_others, G_others, m_others, k_others, b_others⟩ := c1
  refine ⟨f, fd, F.ok sc_near_bits (fun vs H Q E h => ?_) (fun cdv A outer s H vs Q E hr h => ?_), m_, F.kp, b_⟩
  · obtain ⟨d, od, VS, v, far, k, rfl, _⟩ := h
    rfl
  · obtain ⟨d, od, VS, v, far, k, rfl, hd, hz, hk, hu, hn, hv, q⟩ := h
    refine ⟨_, (pss_one (ps_ret (pe_callB (cr_sum rfl) (by rfl) T.m_sum (by decide +kernel) (pa_cons (pe_lc (own := [("other", 3)]) (g := gName 3) (by rfl) sc_near_bits.nd (pi_keys (pv 0)) (blkOk_by (own := [("other", 3)]) (N := n_near_bits) (sc := (defScope s_near_bits)) (by decide +kernel)) (fun _ _ _ _ _ => pg_name (i := 3) sc_near_bits.nd rfl (Or.inl rfl)) (fun _ _ _ _ _ => pts_one (pt_cmpR op_lt (pe_call G_others (hr.mono (by decide)) (by rfl) m_others k_others b_others .nil pass0 (pa_cons (pv 1) (pa_cons (pv 3) pa_nil))) (pv 2) (nomark _))) (fun _ _ _ _ _ => (pe_dget (Nat.lt_of_le_of_lt (Nat.add_le_add_left (by decide) _) hr.units) (pv 0) (pv 3) (fun _ _ => rfl)))) pa_nil)))), ?_⟩
    refine ⟨_, rfl, d, od, rfl, .inl ⟨_, hd, fun D nD => ?_⟩⟩
    refine lc_it (walk_keys (d := d) (o := od) (kvs := (List.range VS.length).map fun i => (ksT (VS.getD i []), V.int ((2 ^ i : Nat) : Int)))) (fun i H' => Ex H H' ∧ H' D = some (.lst ((((List.range i).filter fun i => decide (dif v (VS.getD i []) < far)).map fun i => ((2 ^ i : Nat) : Int)).map V.int))) ⟨Ex.new nD, upd_same⟩ (fun i H' _ p => p.1 _ _ hd) (fun i x G H' hi p y => ?_) (fun H' p => ?_)
    · obtain ⟨rfl, kk, w, hkv, rfl⟩ := y
      obtain ⟨p1, p2⟩ := p
      rw [List.length_map, List.length_range] at hi
      rw [List.getElem?_map, List.getElem?_range hi] at hkv
      have ee := Option.some.inj hkv
      have e1 : ksT (VS.getD i []) = kk := congrArg Prod.fst ee
      subst e1
      have hum : VS.getD i [] ∈ VS := mem_getDL hi
      obtain ⟨u1, u2⟩ := hu _ hum
      have hd' := p1 _ _ hd
      have ll : ((((List.range i).filter fun i => decide (dif v (VS.getD i []) < far)).map fun i => ((2 ^ i : Nat) : Int)).map V.int).length ≤ i := by
        rw [List.length_map, List.length_map]
        have z := List.length_filter_le (fun i => decide (dif v (VS.getD i []) < far)) (List.range i)
        rw [List.length_range] at z
        exact z
      refine ⟨rfl, ?_⟩
      refine et_test (b := decide (dif v (VS.getD i []) < far)) (ev_is (ev_op (ev_call (z := .int (dif v (VS.getD i []) : Int)) (ea_cons (ev_var rfl) (ea_cons (ev_var rfl) ea_nil)) fun G e Q q E => ⟨txt v, txt (VS.getD i []), rfl, by rw [txt_len, txt_len, u1, hv], by rw [txt_len]; omega, by rw [miss_dif (fun c hc => (u2 c hc).2) (by rw [u1, hv])]; exact q⟩) (ev_var rfl) rv_I0) (by congr 1; exact decide_eq_decide.mpr (by omega))) _ (Ex.refl _) _ fun H3 e3 => ?_
      by_cases hb : dif v (VS.getD i []) < far
      · rw [decide_eq_true hb]
        refine iteT ?_
        have hd3 := e3 _ _ hd'
        refine ⟨_, rfl, _, rfl, d, _, rfl, .inl ⟨_, ksT (VS.getD i []), .inr ⟨od, hd3⟩, rfl, (kvs_at hn hi).symm⟩, _, e3 _ _ p2, by rw [sizeLine_eq]; omega, Ex.mut (p1.trans e3) nD, ?_⟩
        rw [upd_same, List.range_succ, List.filter_append, List.filter_cons_of_pos (by exact decide_eq_true hb), List.map_append, List.map_append]
        rfl
      · rw [decide_eq_false hb]
        refine iteF ⟨p1.trans e3, ?_⟩
        rw [List.range_succ, List.filter_append, List.filter_cons_of_neg (by rw [decide_eq_false hb]; exact Bool.false_ne_true), List.filter_nil, List.append_nil]
        exact e3 _ _ p2
    · obtain ⟨p1, p2⟩ := p
      rw [List.length_map, List.length_range] at p2
      refine ⟨D, _, rfl, sq_of p2, ?_⟩
      rw [sum_bar]
      exact q H' p1
theorem ok_bits (e : Ent K mg "window_bits" s_window_bits p_window_bits) (T : Top K mg CM CR CV CG fG CK fK a_SMALL_WIDTH a_SMALL_SEEN) (c1 : Cal P w K mg base CX0 4 "seen" p_seen (spSeen0 K)) (c2 : Cal P w K mg base CX0 1 "words" p_words spWords) (c3 : Cal P w K mg base CX0 1 "view_at" p_view_at (spViewAt K))
    (c4 : Cal P w K mg base CX0 2 "near_bits" p_near_bits spNearBits) : Cal P w K mg base CX0 5 "window_bits" p_window_bits (spBits K) := by
  obtain ⟨f, fd, F, m_, b_⟩ := e
  obtain ⟨f_seen, fd_seen, G_seen, m_seen, k_seen, b_seen⟩ := c1
  obtain ⟨f_words, fd_words, G_words, m_words, k_words, b_words⟩ := c2
  obtain ⟨f_view_at, fd_view_at, G_view_at, m_view_at, k_view_at, b_view_at⟩ := c3
  obtain ⟨f_near_bits, fd_near_bits, G_near_bits, m_near_bits, k_near_bits, b_near_bits⟩ := c4
  refine ⟨f, fd, F.ok sc_window_bits (fun vs H Q E h => ?_) (fun cdv A outer s H vs Q E hr h => ?_), m_, F.kp, b_⟩
  · obtain ⟨m, z, far, rfl, _⟩ := h
    rfl
  · obtain ⟨m, z, far, rfl, hm, h1, h4, hB, hzn, hzl, q⟩ := h
    have l1 := isMask_len hm
    have l2 := open_len m
    refine ⟨_, (pss_cons (ps_set (i := 3) sc_window_bits.nd rfl (Or.inr rfl) (pe_call G_seen (hr.mono (by decide)) (by rfl) m_seen k_seen b_seen .nil pass0 (pa_cons (pv 0) pa_nil)))
      (pss_cons (ps_set (i := 4) sc_window_bits.nd rfl (Or.inr rfl) (pe_dc (own := [("at", 7), ("view", 8)]) (g := (gTup K 2 (gCons (gName 7) (gCons (gName 8) gNil)))) (by rfl) sc_window_bits.nd (pi_enum (by rfl) T.m_enumerate (pa_cons (pe_call G_words (hr.mono (by decide)) (by rfl) m_words k_words b_words .nil pass0 (pa_cons (pv 1) (pa_cons (pe_callB call_len (by rfl) T.m_len (by decide +kernel) (pa_cons (pv 3) pa_nil)) pa_nil))) pa_nil)) (blkOk_by (own := [("at", 7), ("view", 8)]) (N := n_window_bits) (sc := (defScope s_window_bits)) (by decide +kernel)) (fun _ _ _ _ _ => by exact (pg_tup rfl (pgs_cons (by exact pg_name (i := 7) sc_window_bits.nd rfl (Or.inl rfl)) (pgs_cons (by exact pg_name (i := 8) sc_window_bits.nd rfl (Or.inl rfl)) pgs_nil)))) (fun _ _ _ _ _ => pts_nil) (fun _ _ _ _ _ => (pv 8)) (fun _ _ _ _ _ => (pe_op op_shl pe_int (pv 7)))))
      (pss_cons (ps_set (i := 5) sc_window_bits.nd rfl (Or.inr rfl) (pe_lock (pe_dc (own := [("view", 8)]) (g := (gName 8)) (by rfl) sc_window_bits.nd (pi_keys (pv 4)) (blkOk_by (own := [("view", 8)]) (N := n_window_bits) (sc := (defScope s_window_bits)) (by decide +kernel)) (fun _ _ _ _ _ => pg_name (i := 8) sc_window_bits.nd rfl (Or.inl rfl)) (fun _ _ _ _ _ => pts_nil) (fun _ _ _ _ _ => (pv 8)) (fun _ _ _ _ _ => (pe_call G_near_bits (hr.mono (by decide)) (by rfl) m_near_bits k_near_bits b_near_bits .nil pass0 (pa_cons (pv 4) (pa_cons (pv 8) (pa_cons (pv 2) pa_nil))))))))
      (pss_cons (ps_set (i := 6) sc_window_bits.nd rfl (Or.inr rfl) (pe_dc (own := [("window", 9)]) (g := (gName 9)) (by rfl) sc_window_bits.nd (pi_list (pe_call G_words (hr.mono (by decide)) (by rfl) m_words k_words b_words .nil pass0 (pa_cons (pv 1) (pa_cons (pe_callB call_len_str (by rfl) T.m_len (by decide +kernel) (pa_cons (pv 0) pa_nil)) pa_nil)))) (blkOk_by (own := [("window", 9)]) (N := n_window_bits) (sc := (defScope s_window_bits)) (by decide +kernel)) (fun _ _ _ _ _ => pg_name (i := 9) sc_window_bits.nd rfl (Or.inl rfl)) (fun _ _ _ _ _ => pts_nil) (fun _ _ _ _ _ => (pv 9)) (fun _ _ _ _ _ => (pe_call G_view_at (hr.mono (by decide)) (by rfl) m_view_at k_view_at b_view_at .nil pass0 (pa_cons (pv 9) (pa_cons (pv 3) (pa_cons pe_int pa_nil)))))))
      (pss_one (ps_ret (pe_lock (pe_dc (own := [("window", 9)]) (g := (gName 9)) (by rfl) sc_window_bits.nd (pi_keys (pv 6)) (blkOk_by (own := [("window", 9)]) (N := n_window_bits) (sc := (defScope s_window_bits)) (by decide +kernel)) (fun _ _ _ _ _ => pg_name (i := 9) sc_window_bits.nd rfl (Or.inl rfl)) (fun _ _ _ _ _ => pts_nil) (fun _ _ _ _ _ => (pv 9)) (fun _ _ _ _ _ => (pe_tup (pa_cons (pe_dget (Nat.lt_of_le_of_lt (Nat.add_le_add_left (by decide) _) hr.units) (pv 4) (pe_dget (Nat.lt_of_le_of_lt (Nat.add_le_add_left (by decide) _) hr.units) (pv 6) (pv 9) (fun _ _ => rfl)) (fun _ _ => rfl)) (pa_cons (pe_dget (Nat.lt_of_le_of_lt (Nat.add_le_add_left (by decide) _) hr.units) (pv 5) (pe_dget (Nat.lt_of_le_of_lt (Nat.add_le_add_left (by decide) _) hr.units) (pv 6) (pv 9) (fun _ _ => rfl)) (fun _ _ => rfl)) pa_nil)))))))))))), ?_⟩
    refine q_asgL (xs := natsV (openM m)) (el_call (ea_cons (ev_var rfl) ea_nil) fun G e Q q E => ⟨m, rfl, hm, q⟩) fun a H1 na e1 ha => ?_
    obtain ⟨VS, hVS⟩ : ∃ VS, wordsL z.cps.toList (openM m).length = VS := ⟨_, rfl⟩
    obtain ⟨us, hus⟩ : ∃ us, wordsL z.cps.toList m.length = us := ⟨_, rfl⟩
    have vl : VS.length ≤ 1100 := by
      rw [← hVS, words_len, len_l]
      exact Nat.le_trans (Nat.pow_le_pow_right h1 l2) hB
    have ul : us.length ≤ 1100 := by
      rw [← hus, words_len, len_l]
      exact hB
    have vn : VS.Nodup := by rw [← hVS]; exact words_nodup hzn _
    have un : us.Nodup := by rw [← hus]; exact words_nodup hzn _
    have ve : ∀ u ∈ VS, u.length = (openM m).length ∧ ∀ c ∈ u, c < 128 ∧ c ≠ 63 := fun u hu => by
      rw [← hVS] at hu
      obtain ⟨a, b⟩ := words_each hu
      exact ⟨a, fun c hc => hzl c (b c hc)⟩
    have ue : ∀ u ∈ us, u.length = m.length ∧ (∀ c ∈ u, c ∈ z.cps.toList) := fun u hu => by
      rw [← hus] at hu
      exact words_each hu
    have uv : ∀ u ∈ us, vw (openM m) u 0 ∈ VS := fun u hu => by
      rw [← hVS]
      obtain ⟨a, b⟩ := ue u hu
      exact vw_in (fun p hp => open_lt hp) b (by omega)
    have kne : ∀ (L : List (List Nat)), L.Nodup → ∀ a b, a < b → b < L.length → ksT (L.getD a []) ≠ ksT (L.getD b []) := fun L hL a b hab hb => nd_ne hL hab hb
    dsimp only [tSeq]
    -- bits
    refine el_dcE (K := K) (xs := tS VS) (fun i => ksT (VS.getD i [])) (fun i => V.int ((2 ^ i : Nat) : Int)) (el_call (vs := [.str z, .int ((openM m).length : Int)]) (ea_cons (ev_var rfl) (ea_cons (ev_is (ev_cb (ea_cons (ev_var rfl) ea_nil) (rc_lenL (sq_of ha))) (by rw [natsV_len])) ea_nil)) fun G e Q q E => ⟨z, (openM m).length, rfl, h1, h4, by omega, Nat.le_trans (Nat.pow_le_pow_right h1 l2) hB, by rw [hVS]; exact q⟩) (by rw [tS_len]; omega) (fun _ _ => rfl)
      (fun a b hab hb => kne VS vn a b hab (by rw [tS_len] at hb; exact hb)) (fun i y G e hy => by obtain ⟨hi, rfl⟩ := tS_get hy; exact ev_var rfl) (fun i y G e hy => ?_) _ (Ex.refl _) _ fun d1 H2 nd1 e2 hd1 => ?_
    · obtain ⟨hi, rfl⟩ := tS_get hy
      refine ev_is (w := V.int ((2 ^ i : Nat) : Int)) (ev_op ev_c (ev_var rfl) (rv_I (show (0 : Int) ≤ (i : Int) ∧ _ from ⟨by omega, by omega, by decide⟩))) ?_
      congr 1
      rw [Int.toNat_natCast, Int.one_mul]
      exact (Int.natCast_pow 2 i).symm
    rw [tS_len] at hd1
    dsimp only [gName, tSeq]
    -- barred
    refine el_dcK (K := K) (R := fun i v _ => v = V.int ((barN far VS (VS.getD i []) : Nat) : Int)) (kf := fun i => ksT (VS.getD i [])) (kvs := (List.range VS.length).map fun i => (ksT (VS.getD i []), V.int ((2 ^ i : Nat) : Int))) (fun H1 od => ev_var rfl) hd1 (by rw [List.length_map, List.length_range]; omega) (fun i hi => ?_) (fun a b hab hb => kne VS vn a b hab (by simpa using hb)) (fun _ => rfl) (fun _ => rfl) (fun i v H1 H2 x _ _ h => h) (fun i v G hv hG Q q => ?_) (Ex.refl _) fun d2 kv2 H3 nd2 e3 hd2 D2 => ?_
    · rw [List.length_map, List.length_range] at hi
      exact ⟨V.int ((2 ^ i : Nat) : Int), by rw [List.getElem?_map, List.getElem?_range hi]; rfl⟩
    · have hi : i < VS.length := by
        have := (List.getElem?_eq_some_iff.mp hv).1
        simpa using this
      obtain ⟨H0, od, _, _, hfz⟩ := hG
      exact ⟨_, rfl, _, rfl, _, rfl, d1, od, VS, VS.getD i [], far, (openM m).length, rfl, hfz, by omega, by omega, ve, vn, (ve _ (mem_getDL hi)).1, fun H2 e2 => q _ H2 e2 rfl⟩
    rw [List.length_map, List.length_range] at D2
    dsimp only [gName, tSeq]
    have ha3 := e3 _ _ (e2 _ _ ha)
    -- shown
    refine el_dcL (K := K) (xs := tS us) (fun _ => true) (fun i => ksT (us.getD i [])) (fun i => V.str (txt (vw (openM m) (us.getD i []) 0))) (el_call (ea_cons (ev_var rfl) (ea_cons (ev_cb (ea_cons (ev_var rfl) ea_nil) (rc_lenS (by omega))) ea_nil)) fun G e Q q E => ⟨z, m.length, rfl, h1, h4, by omega, hB, by rw [hus]; exact q⟩) (by rw [tS_len]; omega) (fun _ => rfl)
      (fun a b hab hb => kne us un a b hab (by rw [tS_len] at hb; exact hb)) (fun i x G e hx => et_yes) (fun i x G e hx _ => by obtain ⟨hi, rfl⟩ := tS_get hx; exact ev_var rfl) (fun i x G e hx _ => ?_) _ (Ex.refl _) _ fun d3 H4 nd3 e4 hd3 => ?_
    · obtain ⟨hi, rfl⟩ := tS_get hx
      obtain ⟨a1, a2⟩ := ue _ (mem_getDL (d := []) hi)
      exact ev_call (ea_cons (ev_var rfl) (ea_cons (ev_var rfl) (ea_cons ev_c ea_nil))) fun G2 e2 Q q E => ⟨txt (us.getD i []), a, openM m, 0, rfl, sq_of ((e.trans e2) _ _ ha3), fun p hp => by have := open_lt hp; rw [txt_len]; omega, by omega, by rw [txt_len]; omega, by rw [view_txt]; exact q⟩
    rw [tS_len, List.filter_eq_self.mpr (fun _ _ => rfl)] at hd3
    dsimp only [gName, tSeq]
    have hd1' := e4 _ _ (e3 _ _ hd1)
    have hd2' := e4 _ _ hd2
    have d13 : d1 ≠ d3 := fun e => by rw [← e, e3 _ _ hd1] at nd3; cases nd3
    have d23 : d2 ≠ d3 := fun e => by rw [← e, hd2] at nd3; cases nd3
    have D3 : DRel (fun i v (_ : Hp) => v = V.str (txt (vw (openM m) (us.getD i []) 0))) (fun i => ksT (us.getD i [])) us.length ((List.range us.length).map fun i => (ksT (us.getD i []), V.str (txt (vw (openM m) (us.getD i []) 0)))) (fun _ => none) := ⟨by simp, fun i hi => ⟨_, by simp [hi], rfl⟩⟩
    -- the pairs
    refine el_dcK (K := K) (R := fun i v H' => ∃ t, v = .ref t ∧ H' t = some (.tup [.int ((2 ^ VS.idxOf (vw (openM m) (us.getD i []) 0) : Nat) : Int), .int ((barN far VS (vw (openM m) (us.getD i []) 0) : Nat) : Int)])) (kf := fun i => ksT (us.getD i [])) (kvs := (List.range us.length).map fun i => (ksT (us.getD i []), V.str (txt (vw (openM m) (us.getD i []) 0)))) (fun H1 od => ev_var rfl) hd3 (by rw [List.length_map, List.length_range]; omega) (fun i hi => ?_) (fun a b hab hb => kne us un a b hab (by simpa using hb)) (fun _ => rfl) (fun _ => rfl) (fun i v G1 G2 x hx hk h => ?_) (fun i v G hv hG Q q => ?_) (Ex.refl _) fun d4 kv4 H5 nd4 e5 hd4 D4 => ?_
    · rw [List.length_map, List.length_range] at hi
      exact ⟨V.str (txt (vw (openM m) (us.getD i []) 0)), by rw [List.getElem?_map, List.getElem?_range hi]; rfl⟩
    · obtain ⟨t, rfl, ht⟩ := h
      refine ⟨t, rfl, hk t _ (fun z => ?_) ht⟩
      obtain ⟨kv, od, hx | hx⟩ := hx
      · rw [← z, ht] at hx; cases hx
      · rw [← z, ht] at hx; cases hx
    · have hi : i < us.length := by
        have := (List.getElem?_eq_some_iff.mp hv).1
        simpa using this
      obtain ⟨H0, od, e0, eG, hfz⟩ := hG
      have z1 : G d1 = some (.dK ((List.range VS.length).map fun i => (ksT (VS.getD i []), V.int ((2 ^ i : Nat) : Int)))) := eG _ _ (by rw [upd_ne d13]; exact e0 _ _ hd1')
      have z2 : G d2 = some (.dK kv2) := eG _ _ (by rw [upd_ne d23]; exact e0 _ _ hd2')
      obtain ⟨w3, w4, rfl⟩ := D3.at (fun a b hab hb => kne us un a b hab hb) i hi
      have hin := uv _ (mem_getDL (d := []) hi)
      have hix := List.idxOf_lt_length_iff.mpr hin
      obtain ⟨w5, w6, w7⟩ := D2.at (fun a b hab hb => kne VS vn a b hab hb) _ hix
      have eg : VS.getD (VS.idxOf (vw (openM m) (us.getD i []) 0)) [] = vw (openM m) (us.getD i []) 0 := by
        rw [List.getD_eq_getElem?_getD, List.getElem?_eq_getElem hix]
        exact List.getElem_idxOf hix
      rw [eg] at w6 w7
      have k3 : DGet G d3 (kV (ksT (us.getD i []))) (some (V.str (txt (vw (openM m) (us.getD i []) 0)))) := .inl ⟨_, ksT (us.getD i []), .inr ⟨od, hfz⟩, rfl, w4.symm⟩
      refine ⟨_, rfl, _, rfl, _, rfl, d3, _, rfl, k3, d1, _, rfl, .inl ⟨_, ksT (vw (openM m) (us.getD i []) 0), .inl z1, rfl, (kvs_idx vn hin).symm⟩, _, rfl, _, rfl, _, rfl, d3, _, rfl, k3, d2, _, rfl, .inl ⟨kv2, ksT (vw (openM m) (us.getD i []) 0), .inl z2, rfl, w6.symm⟩, by show 2 ≤ sizeLine; decide, fun t nt => ?_⟩
      rw [w7]
      exact q (.ref t) _ (Ex.new nt) ⟨t, rfl, upd_same⟩
    · rw [List.length_map, List.length_range] at D4
      have eA := (((e1.trans e2).trans e3).trans e4).trans e5
      refine q d4 kv4 H5 eA (fresh_back (((e1.trans e2).trans e3).trans e4) nd4) hd4 fun u => ⟨fun hu => ?_, fun hu => ?_⟩
      · rw [hus] at hu
        obtain ⟨i, hi, rfl⟩ := List.getElem_of_mem hu
        obtain ⟨v, hv, t, rfl, ht⟩ := D4.at (fun a b hab hb => kne us un a b hab hb) i hi
        rw [List.getD_eq_getElem?_getD, List.getElem?_eq_getElem hi] at hv ht
        rw [hVS]
        exact ⟨t, hv, ht⟩
      · rw [hus] at hu
        exact D4.new fun a ha e => hu (by rw [← ks_inj e]; exact mem_getDL ha)
end
end K01
namespace K01
open PySem PySem.Spec PyProof.Rows L2 Evl Qt
theorem ev_fld {K : PySem.W.Frag} {te : TE} {σ : L2.St} {H : Hp} {x C dx : Addr} {fs : List (Str × V)} {v : V} {f : Str} (h : Ev te σ H (.ref x)) (hx : H x = some (.ins C dx fs)) (c : Cls K C) (n : NoAttr K C f) (hf : fs.lookup f = some v) : Ev (tFld K te f) σ H v :=
  fun H1 e Q q => h H1 e _ fun H2 e2 => ⟨x, C, dx, fs, v, rfl, (e.trans e2) _ _ hx, c, n, hf, q H2 e2⟩
theorem ev_slS {te : TE} {tl th : TO} {σ : L2.St} {H : Hp} {z : Str} {lo hi : Option Int} (h : Ev te σ H (.str z)) (h1 : EvO tl σ H lo) (h2 : EvO th σ H hi) (hz : z.length ≤ 100000) : Ev (tSl rSlS te tl th) σ H (.str (cutS z lo hi)) :=
  fun H1 e Q q => h H1 e _ fun H2 e2 => h1 H2 (e.trans e2) _ fun H3 e3 => h2 H3 ((e.trans e2).trans e3) _ fun H4 e4 => ⟨z, rfl, sz_of hz, q H4 ((e2.trans e3).trans e4)⟩
theorem s_forS {te : TE} {tu : TS} {D : Ends} {σ : L2.St} {H : Hp} {z : Str} {j : Nat} (h : Ev te σ H (.str z)) (Pv : Nat → L2.St → Hp → Prop) (h0 : ∀ H1, Ex H H1 → Pv 0 σ H1)
    (hs : ∀ i σ' H', i < z.length → Pv i σ' H' → tu { D with nx := Pv (i + 1), ct := Pv (i + 1), bk := D.nx } (σ'.set j (some (sg z i))) H') (hd : ∀ σ' H', Pv z.length σ' H' → D.nx σ' H') : tFor (iStr te) (gName j) tu D σ H :=
  h H (Ex.refl H) _ fun H1 e => ⟨z, rfl, for_it (walk_str (z := z)) Pv (h0 H1 e) (fun _ _ _ _ _ => trivial) (fun i x σ' H2 H3 hi p y => by
    obtain ⟨rfl, c, hc, rfl⟩ := y
    rw [sg_of hc]
    exact hs i σ' _ hi p) hd⟩
theorem cut_lo {z : Str} {k : Nat} (h : k ≤ z.length) : (cutS z none (some (k : Int))).cps.toList = z.cps.toList.take k := by
  unfold cutS
  rw [HT.sIx_none, HT.sIx_nat, List.toList_toArray, List.drop_zero, Nat.min_eq_left h, Nat.sub_zero]
theorem cut_neg {u : List Nat} {k : Nat} (h : 1 ≤ k) : cutS (txt u) (some (-(k : Int))) none = txt (u.drop (u.length - k)) := by
  apply str_ext
  unfold cutS
  rw [HT.sIx_none, List.toList_toArray, txt_l, txt_l, txt_len]
  have e : HT.sIx u.length 0 (some (-(k : Int))) = u.length - k := by
    show (if (-(k : Int)) < 0 then ((-(k : Int)) + (u.length : Int)).toNat else min (-(k : Int)).toNat u.length) = _
    rw [if_pos (by omega)]
    omega
  rw [e, List.take_of_length_le]
  rw [List.length_drop]
  omega
theorem cut_mid {u : List Nat} {i w : Nat} (h : i + w ≤ u.length) : cutS (txt u) (some (i : Int)) (some ((i : Int) + (w : Int))) = txt ((u.drop i).take w) := by
  apply str_ext
  unfold cutS
  rw [show (i : Int) + (w : Int) = ((i + w : Nat) : Int) from rfl, HT.sIx_nat, HT.sIx_nat, List.toList_toArray, txt_l, txt_l, txt_len, Nat.min_eq_left (show i ≤ u.length by omega), show min (i + w) u.length - i = w by omega]
theorem vw_cut {l r : List Nat} {w i : Nat} (hl : ∀ p ∈ l, p < w) : vw l ((r.drop i).take w) 0 = vw l r i := List.map_congr_left fun p hp => by
  have := hl p hp
  rw [List.getD_eq_getElem?_getD, List.getD_eq_getElem?_getD, Nat.zero_add, List.getElem?_take_of_lt this, List.getElem?_drop]
theorem bit_pair {far : Nat} {sg l u : List Nat} {w : Nat} {kvs : List (Key × V)} {H : Hp} {t0 : Addr} (hl : ∀ p ∈ l, p < w) (hb : BitsTo far sg l w kvs H) (hu : ∀ c ∈ u, c ∈ sg) (h0 : H t0 = some (.tup [.int 0, .int 0])) :
    ∃ t, (valV kvs (ksT (u.drop (u.length - w)))).getD (.ref t0) = .ref t ∧ H t = some (.tup [.int ((bt (wordsL sg l.length) l w u : Nat) : Int), .int ((nr far (wordsL sg l.length) l w u : Nat) : Int)]) := by
  unfold bt nr
  by_cases h : w ≤ u.length
  · obtain ⟨t, a, b⟩ := (hb (u.drop (u.length - w))).1 (words_mem _ _ (by rw [List.length_drop]; omega) fun c hc => hu c (List.mem_of_mem_drop hc))
    have e : vw l (u.drop (u.length - w)) 0 = vw l u (u.length - w) := List.map_congr_left fun p _ => by
      rw [List.getD_eq_getElem?_getD, List.getD_eq_getElem?_getD, Nat.zero_add, List.getElem?_drop]
    rw [e] at b
    rw [if_pos h, if_pos h, a]
    exact ⟨t, rfl, b⟩
  · rw [if_neg h, if_neg h, (hb (u.drop (u.length - w))).2]
    · exact ⟨t0, rfl, h0⟩
    · intro z
      have := (words_each z).1
      rw [List.length_drop] at this
      omega
def gF (z : Str) (w : Int) (d : Addr) : List (Str × V) := putF "bits" (.ref d) (putF "width" (.int w) (putF "signs" (.str z) []))
theorem nbs : ¬ (("signs" : Str) = "bits") := by decide +kernel
theorem nsw : ¬ (("signs" : Str) = "width") := by decide +kernel
theorem nbw : ¬ (("width" : Str) = "bits") := by decide +kernel
theorem gF_signs (z : Str) (w : Int) (d : Addr) : (gF z w d).lookup ("signs" : Str) = some (.str z) := by
  unfold gF
  rw [lookup_putF, if_neg nbs, lookup_putF, if_neg nsw, lookup_putF, if_pos rfl]
theorem gF_width (z : Str) (w : Int) (d : Addr) : (gF z w d).lookup ("width" : Str) = some (.int w) := by
  unfold gF
  rw [lookup_putF, if_neg nbw, lookup_putF, if_pos rfl]
theorem gF_bits (z : Str) (w : Int) (d : Addr) : (gF z w d).lookup ("bits" : Str) = some (.ref d) := by
  unfold gF
  rw [lookup_putF, if_pos rfl]
theorem gF_no (z : Str) (w : Int) (d : Addr) {f : Str} (h1 : ¬ f = "bits") (h2 : ¬ f = "width") (h3 : ¬ f = "signs") : (gF z w d).lookup f = none := by
  unfold gF
  rw [lookup_putF, if_neg h1, lookup_putF, if_neg h2, lookup_putF, if_neg h3]
  rfl
def GrowAt (CG : Addr) (H : Hp) (x : Addr) (m z : Str) (far : Nat) : Prop := ∃ dx d kvs, H x = some (.ins CG dx (gF z (m.length : Int) d)) ∧ H d = some (.dK kvs) ∧ BitsTo far z.cps.toList (openM m) m.length kvs H
def sgn (n : Nat) : Str := cutS (PySem.Str.ofString "abcd") none (some (n : Int))
theorem abcd_l : (PySem.Str.ofString "abcd").cps.toList = [97, 98, 99, 100] := by decide +kernel
theorem sgn_l {n : Nat} (h : n ≤ 4) : (sgn n).cps.toList = [97, 98, 99, 100].take n := by
  unfold sgn
  rw [cut_lo (by rw [show (PySem.Str.ofString "abcd").length = 4 by decide +kernel]; exact h), abcd_l]
theorem sgn_len {n : Nat} (h : n ≤ 4) : (sgn n).length = n := by
  rw [← len_l, sgn_l h, List.length_take]
  simp
  omega
theorem sgn_nodup {n : Nat} (h : n ≤ 4) : (sgn n).cps.toList.Nodup := by
  rw [sgn_l h]
  exact List.Sublist.nodup (List.take_sublist _ _) (by decide)
theorem sgn_sign {n : Nat} (h : n ≤ 4) : ∀ c ∈ (sgn n).cps.toList, c < 128 ∧ c ≠ 63 := fun c hc => by
  rw [sgn_l h] at hc
  have := List.mem_of_mem_take hc
  simp only [List.mem_cons, List.not_mem_nil, or_false] at this
  omega
/-- what the rows of a mask bar; their pairs -/
def barM (far : Nat) (m z : Str) (r : List Nat) : Nat := brs far (wordsL z.cps.toList (openM m).length) (vws (openM m) m.length r)
abbrev PrsM (far : Nat) (m z : Str) (H : Hp) (xs : List V) (rs : List (List Nat)) : Prop := Prs (barM far m z) H xs rs
theorem Prs.upd {B : List Nat → Nat} {H : Hp} {xs ys : List V} {rs : List (List Nat)} {D : Addr} {o : HO} (h : Prs B H xs rs) (hD : H D = some (.lst ys)) : Prs B (upd H D o) xs rs := by
  induction h with
  | nil => exact .nil
  | snoc _ ht ih => exact .snoc ih (by rw [upd_ne (ne_of ht hD (by intro z; cases z))]; exact ht)
def spGInit (CG : Addr) : Sp := fun vs H Q _ => ∃ (H0 : Hp) (x dx : Addr) (m : Str) (n far : Nat), vs = [.ref x, .str m, .int (n : Int), .int (far : Int)] ∧ Ex H0 H ∧ H0 x = none ∧ H x = some (.ins CG dx []) ∧ isMask m = true ∧ 1 ≤ n ∧ n ≤ 4 ∧ n ^ m.length ≤ 1100 ∧
  ∀ H', Ex H0 H' → GrowAt CG H' x m (sgn n) far → Q .non H'
def spBegun (K : PySem.W.Frag) (CG : Addr) : Sp := fun vs H Q _ => ∃ (x : Addr) (m z : Str) (far : Nat) (r : List Nat), vs = [.ref x, .str (txt r)] ∧ isMask m = true ∧ GrowAt CG H x m z far ∧ (∀ c ∈ r, c ∈ z.cps.toList) ∧ r.length ≤ 100 ∧
  ∀ p xs H', Ex H H' → H p = none → H' p = some (.lst xs) → PrsM far m z H' xs [r] → Q (.ref p) H'
def spLonger (K : PySem.W.Frag) (CG : Addr) : Sp := fun vs H Q _ => ∃ (x a : Addr) (m z : Str) (far : Nat) (xs : List V) (rs : List (List Nat)), vs = [.ref x, .ref a] ∧ isMask m = true ∧ z.length ≤ 4 ∧ GrowAt CG H x m z far ∧ H a = some (.lst xs) ∧ PrsM far m z H xs rs ∧
  (∀ r ∈ rs, (∀ c ∈ r, c ∈ z.cps.toList) ∧ ap far (vws (openM m) m.length r) ∧ r.length ≤ 100) ∧ (rs.flatMap (stp far z.cps.toList (openM m) m.length)).length ≤ 8388608 ∧
  ∀ p ys H', Ex H H' → H p = none → H' p = some (.lst ys) → PrsM far m z H' ys (rs.flatMap (stp far z.cps.toList (openM m) m.length)) → Q (.ref p) H'
section
variable {P : Program} {w : World} {K : PySem.W.Frag} {mg : Str → Option Value} {base : Heap} {CM CR CV CG fG CK fK a_SMALL_WIDTH a_SMALL_SEEN : Addr}
theorem ok_ginit (T : Top K mg CM CR CV CG fG CK fK a_SMALL_WIDTH a_SMALL_SEEN) (c1 : Cal P w K mg base CX0 5 "window_bits" p_window_bits (spBits K)) : ∃ fd, FnOk P w K mg base CX0 6 fG fd p_Growth___init__ (spGInit CG) ∧ Binds K fd p_Growth___init__ [] := by
  obtain ⟨fd, F, b_⟩ := T.t_Growth_init
  obtain ⟨f_window_bits, fd_window_bits, G_window_bits, m_window_bits, k_window_bits, b_window_bits⟩ := c1
  have cl := T.c_Growth.cl
  have na := T.c_Growth.na
  refine ⟨fd, F.ok sc_Growth___init__ (fun vs H Q E h => ?_) (fun cdv A outer s H vs Q E hr h => ?_), b_⟩
  · obtain ⟨H0, x, dx, m, n, far, rfl, _⟩ := h
    rfl
  · obtain ⟨H0, x, dx, m, n, far, rfl, e0, n0, hx, hm, h1, h4, hB, q⟩ := h
    have l1 := isMask_len hm
    refine ⟨_, (pss_cons (ps_fld (pv 0) (pe_slice sl_str (pe_glob (v := .str (PySem.Str.ofString "abcd")) (by rfl) T.g_LETTERS.choose_spec ⟨_, rfl⟩) po_none (po_some (pv 2))) rfl)
      (pss_cons (ps_fld (pv 0) (pe_callB call_len_str (by rfl) T.m_len (by decide +kernel) (pa_cons (pv 1) pa_nil)) rfl)
      (pss_one (ps_fld (pv 0) (pe_call G_window_bits (hr.mono (by decide)) (by rfl) m_window_bits k_window_bits b_window_bits .nil pass0 (pa_cons (pv 1) (pa_cons (pe_fld (pv 0) rfl) (pa_cons (pv 3) pa_nil)))) rfl)))), ?_⟩
    refine ev_slS (z := PySem.Str.ofString "abcd") ev_c eo_none (eo_some (i := (n : Int)) (ev_var rfl)) (by decide +kernel) _ (Ex.refl _) _ fun H1 e1 => ?_
    refine ⟨_, rfl, x, CG, dx, [], rfl, e1 _ _ hx, cl, na _ (by simp), by simp, ?_⟩
    have s1 : Ex H0 (upd H1 x (.ins CG dx (putF "signs" (.str (sgn n)) []))) := Ex.mut (e0.trans e1) n0
    refine ⟨_, rfl, m, rfl, by rw [sizeLine_eq]; omega, _, rfl, x, CG, dx, _, rfl, upd_same, cl, na _ (by simp), Nat.lt_of_le_of_lt (length_putF _ _ _) (by decide), ?_⟩
    have s2 : Ex H0 (upd (upd H1 x (.ins CG dx (putF "signs" (.str (sgn n)) []))) x (.ins CG dx (putF "width" (.int (m.length : Int)) (putF "signs" (.str (sgn n)) [])))) := Ex.mut s1 n0
    refine ⟨_, rfl, _, rfl, x, CG, dx, _, _, rfl, upd_same, cl, na "signs" (by simp), (by rw [lookup_putF, if_neg nsw, lookup_putF, if_pos rfl]; rfl), _, rfl, m, sgn n, far, rfl, hm, by rw [sgn_len h4]; exact h1, by rw [sgn_len h4]; exact h4, by rw [sgn_len h4]; exact hB, sgn_nodup h4, sgn_sign h4, fun d kvs H3 e3 nd hd hb => ?_⟩
    have dx_ : d ≠ x := fun z => by rw [z, upd_same] at nd; cases nd
    refine ⟨_, rfl, x, CG, dx, _, rfl, e3 _ _ upd_same, cl, na _ (by simp), Nat.lt_of_le_of_lt (length_putF _ _ _) (Nat.lt_of_le_of_lt (Nat.add_le_add_right (length_putF _ _ _) 1) (by decide)), ?_⟩
    refine q _ (Ex.mut (s2.trans e3) n0) ⟨dx, d, kvs, upd_same, by rw [upd_ne dx_]; exact hd, fun u => ⟨fun hu => ?_, (hb u).2⟩⟩
    obtain ⟨t, a, b⟩ := (hb u).1 hu
    have hx3 := e3 _ _ (show upd _ x _ x = _ from upd_same)
    have tx : t ≠ x := fun z => by rw [z, hx3] at b; cases b
    exact ⟨t, a, by rw [upd_ne tx]; exact b⟩
theorem ok_begun (T : Top K mg CM CR CV CG fG CK fK a_SMALL_WIDTH a_SMALL_SEEN) : ∃ g fd, Meth K CG "begun" g ∧ FnOk P w K mg base CX0 7 g fd p_Growth_begun (spBegun K CG) ∧ Binds K fd p_Growth_begun [] := by
  obtain ⟨g, fd, mt, F, b_⟩ := T.t_Growth_begun
  have cl := T.c_Growth.cl
  have na := T.c_Growth.na
  refine ⟨g, fd, mt, F.ok sc_Growth_begun (fun vs H Q E h => ?_) (fun cdv A outer s H vs Q E hr h => ?_), b_⟩
  · obtain ⟨x, m, z, far, r, rfl, _⟩ := h
    rfl
  · obtain ⟨x, m, z, far, r, rfl, hm, ⟨dx, d, kvs, hx, hd, hb⟩, hrs, hrl, q⟩ := h
    have l1 := isMask_len hm
    have hl : ∀ p ∈ openM m, p < m.length := fun p hp => open_lt hp
    refine ⟨_, (pss_cons (ps_set (i := 2) sc_Growth_begun.nd rfl (Or.inl rfl) pe_int)
      (pss_cons (ps_for PassesOwn.never rfl (pi_range1 (by rfl) T.m_range (pa_cons (pe_op op_add (pe_op op_sub (pe_callB call_len_str (by rfl) T.m_len (by decide +kernel) (pa_cons (pv 1) pa_nil)) (pe_fld (pv 0) rfl)) pe_int) pa_nil)) (pg_name (i := 3) sc_Growth_begun.nd rfl (Or.inl rfl)) (pss_cons (ps_asg (pe_dget (Nat.lt_of_le_of_lt (Nat.add_le_add_left (by decide) _) hr.units) (pe_fld (pv 0) rfl) (pe_slice sl_str (pv 1) (po_some (pv 3)) (po_some (pe_op op_add (pv 3) (pe_fld (pv 0) rfl)))) (fun _ _ => rfl)) (pg_tup (by rfl) (pgs_cons (pg_name (i := 4) sc_Growth_begun.nd rfl (Or.inl rfl)) (pgs_cons (pg_name (i := 5) sc_Growth_begun.nd rfl (Or.inl rfl)) pgs_nil))))
      (pss_one (ps_aug (i := 2) sc_Growth_begun.nd rfl (Or.inl rfl) (pv 5) ip_or))))
      (pss_one (ps_ret (pe_lst (pa_cons (pe_tup (pa_cons (pv 1) (pa_cons (pv 2) pa_nil))) pa_nil)))))), ?_⟩
    refine q_asg (v := .int 0) ev_c fun H1 e1 => ?_
    refine q_forRn (j := 3) (n := (r.length : Int) - (m.length : Int) + 1) (ea_cons (ev_op (ev_op (ev_is (ev_cb (ea_cons (ev_var rfl) ea_nil) (rc_lenS (z := txt r) (by rw [txt_len]; omega))) (by rw [txt_len])) (ev_fld (ev_var rfl) (e1 _ _ hx) cl (na "width" (by simp)) (gF_width _ _ _)) rv_I0) ev_c rv_I0) ea_nil) (by omega)
      (fun i σ' H' => Ex H H' ∧ ∃ x3 x4 x5, σ' = [some (.ref x), some (.str (txt r)), some (.int ((brs far (wordsL z.cps.toList (openM m).length) ((vws (openM m) m.length r).take i) : Nat) : Int)), x3, x4, x5])
      (fun H2 e2 => ⟨e1.trans e2, _, _, _, rfl⟩) (fun i σ' H' hi hp => ?_) (fun σ' H' hp => ?_)
    · obtain ⟨eH, x3, x4, x5, rfl⟩ := hp
      have hiw : i + m.length ≤ r.length := by omega
      obtain ⟨t, h1, h2⟩ := (hb ((r.drop i).take m.length)).1 (words_mem _ _ (by rw [List.length_take, List.length_drop]; omega) fun c hc => hrs c (List.mem_of_mem_drop (List.mem_of_mem_take hc)))
      rw [vw_cut hl] at h2
      have sl : Ev (tSl rSlS (tVar 1) (tPart (tVar 3)) (tPart (tOp (rI0 fun i j => V.int (i + j)) (tVar 3) (tFld K (tVar 0) "width")))) ([some (.ref x), some (.str (txt r)), some (.int ((brs far (wordsL z.cps.toList (openM m).length) ((vws (openM m) m.length r).take i) : Nat) : Int)), x3, x4, x5].set 3 (some (.int (i : Int)))) H' (.str (txt ((r.drop i).take m.length))) :=
        ev_is (ev_slS (ev_var rfl) (eo_some (ev_var rfl)) (eo_some (ev_op (ev_var rfl) (ev_fld (ev_var rfl) (eH _ _ hx) cl (na "width" (by simp)) (gF_width _ _ _)) rv_I0)) (by rw [txt_len]; omega)) (by rw [cut_mid hiw])
      refine q_unp2 (K := K) (x := .int ((2 ^ (wordsL z.cps.toList (openM m).length).idxOf (vw (openM m) r i) : Nat) : Int)) (y := .int ((barN far (wordsL z.cps.toList (openM m).length) (vw (openM m) r i) : Nat) : Int)) (er_of (R := fun v H1 => v = .ref t ∧ Ex H H1) (ev_dget (k := ksT ((r.drop i).take m.length)) (ev_fld (ev_var rfl) (eH _ _ hx) cl (na "bits" (by simp)) (gF_bits _ _ _)) sl (eH _ _ hd) h1) fun H1 e => ⟨rfl, eH.trans e⟩) (fun v H1 _ rr => ⟨t, rr.1, st_of (rr.2 _ _ h2)⟩) fun H4 e34 => ?_
      refine s_aug rfl (ev_var rfl) fun H5 e5 => ?_
      have tk : (vws (openM m) m.length r).take (i + 1) = (vws (openM m) m.length r).take i ++ [vw (openM m) r i] := by
        unfold vws
        rw [List.take_succ, List.getElem?_map, List.getElem?_range (by omega)]
        rfl
      exact ⟨(eH.trans e34).trans e5, _, _, _, by rw [tk, brs_snoc, ← or_nat]; rfl⟩
    · obtain ⟨eH, x3, x4, x5, rfl⟩ := hp
      rw [List.take_of_length_le (by unfold vws; rw [List.length_map, List.length_range]; omega)]
      refine ⟨_, rfl, _, rfl, by show 2 ≤ sizeLine; decide, fun t nt => ⟨by show 1 ≤ sizeLine; decide, fun p np => ?_⟩⟩
      refine q p _ _ ((eH.trans (Ex.new nt)).trans (Ex.new np)) (fresh_back (eH.trans (Ex.new nt)) np) upd_same ?_
      have z0 : Prs (barM far m z) (upd (upd H' t (.tup [.str (txt r), .int ((brs far (wordsL z.cps.toList (openM m).length) (vws (openM m) m.length r) : Nat) : Int)])) p (.lst [.ref t])) ([] ++ [.ref t]) ([] ++ [r]) := .snoc .nil ((Ex.new np) _ _ upd_same)
      exact z0
theorem ok_longer (T : Top K mg CM CR CV CG fG CK fK a_SMALL_WIDTH a_SMALL_SEEN) : ∃ g fd, Meth K CG "longer" g ∧ FnOk P w K mg base CX0 7 g fd p_Growth_longer (spLonger K CG) ∧ Binds K fd p_Growth_longer [] := by
  obtain ⟨g, fd, mt, F, b_⟩ := T.t_Growth_longer
  have cl := T.c_Growth.cl
  have na := T.c_Growth.na
  refine ⟨g, fd, mt, F.ok sc_Growth_longer (fun vs H Q E h => ?_) (fun cdv A outer s H vs Q E hr h => ?_), b_⟩
  · obtain ⟨x, a, m, z, far, xs, rs, rfl, _⟩ := h
    rfl
  · obtain ⟨x, a, m, z, far, xs, rs, rfl, hm, hz4, ⟨dx, d, kvs, hx, hd, hb⟩, ha, hp, hr_, hT, q⟩ := h
    have l1 := isMask_len hm
    have hl : ∀ p ∈ openM m, p < m.length := fun p hp => open_lt hp
    have hlen := hp.len
    obtain ⟨sg_, hsg⟩ : ∃ sg_, z.cps.toList = sg_ := ⟨_, rfl⟩
    have hzl := len_l z
    rw [hsg] at hb hr_ hT q hzl
    obtain ⟨B, hB⟩ : ∃ B, barM far m z = B := ⟨_, rfl⟩
    have eB : ∀ r, B r = brs far (wordsL sg_ (openM m).length) (vws (openM m) m.length r) := fun r => by
      rw [← hB, ← hsg]
      rfl
    unfold PrsM at hp q
    rw [hB] at hp q
    refine ⟨_, (pss_cons (ps_set (i := 2) sc_Growth_longer.nd rfl (Or.inl rfl) (pe_lst pa_nil))
      (pss_cons (ps_for PassesOwn.never rfl (pi_list (pv 1)) (pg_tup (by rfl) (pgs_cons (pg_name (i := 3) sc_Growth_longer.nd rfl (Or.inl rfl)) (pgs_cons (pg_name (i := 4) sc_Growth_longer.nd rfl (Or.inl rfl)) pgs_nil))) (pss_one (ps_for PassesOwn.never rfl (pi_str (pe_fld (pv 0) rfl)) (pg_name (i := 5) sc_Growth_longer.nd rfl (Or.inl rfl)) (pss_cons (ps_set (i := 6) sc_Growth_longer.nd rfl (Or.inl rfl) (pe_op op_add_str (pv 3) (pv 5)))
      (pss_cons (ps_asg (pe_dget2 (Nat.lt_of_le_of_lt (Nat.add_le_add_left (by decide) _) hr.units) (pe_fld (pv 0) rfl) (pe_slice sl_str (pv 6) (po_some (pe_un un_neg (pe_fld (pv 0) rfl))) po_none) (pe_tup (pa_cons pe_int (pa_cons pe_int pa_nil))) ⟨rfl, rfl, rfl, rfl⟩) (pg_tup (by rfl) (pgs_cons (pg_name (i := 7) sc_Growth_longer.nd rfl (Or.inl rfl)) (pgs_cons (pg_name (i := 8) sc_Growth_longer.nd rfl (Or.inl rfl)) pgs_nil))))
      (pss_one (ps_if (pt_not (pt_truth (pe_op op_and (pv 4) (pv 7)) (by intro _; rfl))) (pss_one (ps_expr (pe_bm PySem.F.plainAttrs_list PySem.F.slot_list_append PySem.F.type_list_append mt_append (pv 2) (pa_cons (pe_tup (pa_cons (pv 6) (pa_cons (pe_op op_or (pv 4) (pv 8)) pa_nil))) pa_nil)))) pss_nil)))))))
      (pss_one (ps_ret (pv 2))))), ?_⟩
    refine q_asgL (xs := []) (el_lst ea_nil (by simp)) fun D H1 nD e1 hD => ?_
    refine s_forL (D := { nx := _, rt := _, bk := _, ct := _ }) (xs := xs) (ev_var rfl) (sq_of (e1 _ _ ha)) (fun i σ' H' => Ex H H' ∧ ∃ ys x3 x4 x5 x6 x7 x8, H' D = some (.lst ys) ∧ Prs B H' ys ((rs.take i).flatMap (stp far sg_ (openM m) m.length)) ∧ σ' = [some (.ref x), some (.ref a), some (.ref D), x3, x4, x5, x6, x7, x8])
      (fun H2 e2 => ⟨e1.trans e2, [], _, _, _, _, _, _, e2 _ _ hD, .nil, rfl⟩) (fun i σ' H' _ pp => sq_of (pp.1 _ _ ha)) (fun i y σ' H' hy pp => ?_) (fun σ' H' pp => ?_)
    · obtain ⟨eH, ys, x3, x4, x5, x6, x7, x8, hD', hq, rfl⟩ := pp
      obtain ⟨t, hri, rfl, ht⟩ := hp.get hy
      obtain ⟨r, hrd⟩ : ∃ r, rs.getD i [] = r := ⟨_, rfl⟩
      rw [hrd] at hri ht
      obtain ⟨g1, g2, g3⟩ := hr_ r (List.mem_of_getElem? hri)
      have hi := (List.getElem?_eq_some_iff.mp hri).1
      have tk : rs.take (i + 1) = rs.take i ++ [r] := by
        rw [List.take_succ, hri]
        rfl
      have tot : ((rs.take i).flatMap (stp far sg_ (openM m) m.length)).length + (stp far sg_ (openM m) m.length r).length ≤ 8388608 := by
        refine Nat.le_trans ?_ hT
        conv => rhs; rw [← List.take_append_drop (i + 1) rs, tk, List.flatMap_append, List.flatMap_append, List.flatMap_singleton]
        rw [List.length_append, List.length_append]
        omega
      refine ⟨t, _, rfl, st_of (eH _ _ ht), rfl, _, _, rfl, _, _, rfl, rfl, ?_⟩
      dsimp only [gName]
      refine s_forS (z := z) (ev_fld (ev_var rfl) (eH _ _ hx) cl (na "signs" (by simp)) (gF_signs _ _ _)) (fun k σ' H2 => Ex H H2 ∧ ∃ ys x5 x6 x7 x8, H2 D = some (.lst ys) ∧ Prs B H2 ys ((rs.take i).flatMap (stp far sg_ (openM m) m.length) ++ ((sg_.take k).filter fun c => decide (ap far (vws (openM m) m.length (r ++ [c])))).map fun c => r ++ [c]) ∧
        σ' = [some (.ref x), some (.ref a), some (.ref D), some (.str (txt r)), some (.int ((B r : Nat) : Int)), x5, x6, x7, x8])
        (fun H2 e2 => ⟨eH.trans e2, ys, _, _, _, _, e2 _ _ hD', by rw [List.take_zero]; simpa using hq.ex e2, rfl⟩) (fun k σ' H2 hk pp => ?_) (fun σ' H2 pp => ?_)
      · obtain ⟨eH2, ys, x5, x6, x7, x8, hD2, hq2, rfl⟩ := pp
        obtain ⟨c, hc⟩ : ∃ c, z.cps.toList.getD k 0 = c := ⟨_, rfl⟩
        have hck : sg_[k]? = some c := by
          rw [← hsg, ← hc, List.getD_eq_getElem?_getD, List.getElem?_eq_getElem (by rw [len_l]; exact hk)]
          rfl
        have hcm := List.mem_of_getElem? hck
        have tk2 : sg_.take (k + 1) = sg_.take k ++ [c] := by
          rw [List.take_succ, hck]
          rfl
        have hmore : ∀ d ∈ r ++ [c], d ∈ sg_ := fun d hd => by
          rcases List.mem_append.mp hd with z | z
          · exact g1 d z
          · rw [List.mem_singleton.mp z]; exact hcm
        unfold sg
        rw [hc]
        refine q_asg (v := .str (txt (r ++ [c]))) (by rw [← txt_snoc]; exact ev_op (ev_var rfl) (ev_var rfl) (rv_addS (by rw [txt_len]; show r.length + 1 ≤ _; omega))) fun H3 e3 => ?_
        have sl : Ev (tSl rSlS (tVar 6) (tPart (tUn (rU fun i => V.int (-i)) (tFld K (tVar 0) "width"))) tNoPart) (((([some (.ref x), some (.ref a), some (.ref D), some (.str (txt r)), some (.int ((B r : Nat) : Int)), x5, x6, x7, x8] : L2.St).set 5 (some (.str ⟨#[c]⟩))).set 6 (some (.str (txt (r ++ [c])))))) H3 (.str (txt ((r ++ [c]).drop ((r ++ [c]).length - m.length)))) :=
          ev_is (ev_slS (ev_var rfl) (eo_some (ev_un (ev_fld (ev_var rfl) ((eH2.trans e3) _ _ hx) cl (na "width" (by simp)) (gF_width _ _ _)) ru_neg)) eo_none (by rw [txt_len, List.length_append]; show r.length + 1 ≤ _; omega)) (by rw [cut_neg (by omega)])
        refine q_unp2 (K := K) (x := .int ((bt (wordsL sg_ (openM m).length) (openM m) m.length (r ++ [c]) : Nat) : Int)) (y := .int ((nr far (wordsL sg_ (openM m).length) (openM m) m.length (r ++ [c]) : Nat) : Int)) (er_dget2 (k := ksT ((r ++ [c]).drop ((r ++ [c]).length - m.length))) (ev_fld (ev_var rfl) ((eH2.trans e3) _ _ hx) cl (na "bits" (by simp)) (gF_bits _ _ _)) sl (eu_tup (ea_cons ev_c (ea_cons ev_c ea_nil)) (by simp)) ((eH2.trans e3) _ _ hd)) (fun v G eG rr => ?_) fun H4 e4 => ?_
        · obtain ⟨t0, h04, rfl⟩ := rr
          obtain ⟨tb, htb, htb2⟩ := bit_pair hl (hb.ex ((eH2.trans e3).trans eG)) hmore h04
          exact ⟨tb, htb, st_of htb2⟩
        have e24 := e3.trans e4
        have eH4 := eH2.trans e24
        have hD4 := e24 _ _ hD2
        have hq4 := hq2.ex e24
        have key := fits (far := far) (sg := sg_) hl g2 hmore
        rw [← eB] at key
        obtain ⟨VS, hVS⟩ : ∃ VS, wordsL sg_ (openM m).length = VS := ⟨_, rfl⟩
        rw [hVS] at key ⊢
        have yl : ys.length < sizeLine := by
          rw [hq2.len, List.length_append, List.length_map, sizeLine_eq]
          have z1 : (((sg_.take k).filter fun c => decide (ap far (vws (openM m) m.length (r ++ [c]))))).length ≤ (sg_.take k).length := List.length_filter_le _ _
          rw [List.length_take] at z1
          omega
        refine s_when (b := !(decide (B r &&& bt VS (openM m) m.length (r ++ [c]) ≠ 0))) (et_not ?_) (fun hb2 H5 e5 => ?_) (fun hb2 H5 e5 => ?_)
        · intro G eG Q2 q2
          refine ev_op (ev_var rfl) (ev_var rfl) rv_I0 G eG _ fun G2 eG2 => ⟨_, rfl, ?_⟩
          rw [and_nat]
          have ek : (((B r &&& bt VS (openM m) m.length (r ++ [c]) : Nat) : Int) != 0) = decide (B r &&& bt VS (openM m) m.length (r ++ [c]) ≠ 0) := by
            exact Bool.eq_iff_iff.mpr (by simp)
          rw [ek]
          exact q2 G2 eG2
        · have hz0 : B r &&& bt VS (openM m) m.length (r ++ [c]) = 0 := by simpa using hb2
          have nd := key.mp hz0
          refine s_appUB (e5 _ _ hD4) (ev_var rfl) (eu_tup (ea_cons (ev_var rfl) (ea_cons (ev_is (w := .int ((B (r ++ [c]) : Nat) : Int)) (ev_op (ev_var rfl) (ev_var rfl) rv_I0) (by rw [or_nat, eB (r ++ [c]), eB r, brs_step hl, hVS])) ea_nil)) (by simp)) yl fun p H6 np e6 hp6 => ?_
          have hD6 := e6 _ _ (e5 _ _ hD4)
          refine ⟨Ex.mut ((eH4.trans e5).trans e6) nD, _, _, _, _, _, upd_same, ?_, rfl⟩
          rw [tk2, List.filter_append, List.filter_cons_of_pos (p := fun c => decide (ap far (vws (openM m) m.length (r ++ [c])))) (by exact decide_eq_true nd), List.filter_nil, List.map_append, ← List.append_assoc]
          exact .snoc ((hq4.ex (e5.trans e6)).upd hD6) (by rw [upd_ne (ne_of hp6 hD6 (by intro z; cases z))]; exact hp6)
        · have hz0 : ¬ ap far (vws (openM m) m.length (r ++ [c])) := fun nd => by
            have := key.mpr nd
            rw [this] at hb2
            cases hb2
          refine ⟨eH4.trans e5, ys, _, _, _, _, e5 _ _ hD4, ?_, rfl⟩
          rw [tk2, List.filter_append, List.filter_cons_of_neg (p := fun c => decide (ap far (vws (openM m) m.length (r ++ [c])))) (by simpa using hz0), List.filter_nil, List.append_nil]
          exact hq4.ex e5
      · obtain ⟨eH2, ys, x5, x6, x7, x8, hD2, hq2, rfl⟩ := pp
        refine ⟨eH2, ys, _, _, _, _, _, _, hD2, ?_, rfl⟩
        rw [tk, List.flatMap_append, List.flatMap_singleton]
        rw [List.take_of_length_le (l := sg_) (i := z.length) (by omega)] at hq2
        exact hq2
    · obtain ⟨eH, ys, x3, x4, x5, x6, x7, x8, hD', hq, rfl⟩ := pp
      rw [hlen, List.take_length] at hq
      refine s_ret (ev_var rfl) fun H2 e2 => q D ys H2 (eH.trans e2) nD (e2 _ _ hD') ?_
      exact hq.ex e2
end
end K01
namespace K01
open PySem PySem.Spec PyProof.Rows L2 Evl Qt
def SW (n : Nat) : Nat := if n = 1 then 12 else if n = 2 then 8 else if n = 3 then 5 else 4
def SS (n : Nat) : Nat := if n = 1 then 12 else if n = 2 then 4 else if n = 3 then 2 else 1
def SmallM (m : Str) (n : Nat) : Prop := isMask m = true ∧ 1 ≤ n ∧ n ≤ 4 ∧ m.length ≤ SW n ∧ (openM m).length ≤ SS n
theorem SmallM.words {m : Str} {n : Nat} (h : SmallM m n) : n ^ m.length ≤ 1100 := by
  obtain ⟨_, h1, h4, hw, _⟩ := h
  refine Nat.le_trans (Nat.pow_le_pow_right h1 hw) ?_
  have : n = 1 ∨ n = 2 ∨ n = 3 ∨ n = 4 := by omega
  rcases this with rfl | rfl | rfl | rfl <;> decide
theorem SmallM.rows {m : Str} {n : Nat} (h : SmallM m n) : n ^ (n ^ (openM m).length + m.length - 1) ≤ 8388608 := by
  obtain ⟨_, h1, h4, hw, hs⟩ := h
  have e : n ^ (openM m).length ≤ n ^ SS n := Nat.pow_le_pow_right h1 hs
  refine Nat.le_trans (Nat.pow_le_pow_right h1 (show _ ≤ n ^ SS n + SW n - 1 by omega)) ?_
  have : n = 1 ∨ n = 2 ∨ n = 3 ∨ n = 4 := by omega
  rcases this with rfl | rfl | rfl | rfl <;> decide +kernel
theorem SmallM.top {m : Str} {n : Nat} (h : SmallM m n) : n ^ (openM m).length + m.length ≤ 24 := by
  obtain ⟨_, h1, h4, hw, hs⟩ := h
  have e : n ^ (openM m).length ≤ n ^ SS n := Nat.pow_le_pow_right h1 hs
  refine Nat.le_trans (Nat.add_le_add e hw) ?_
  have : n = 1 ∨ n = 2 ∨ n = 3 ∨ n = 4 := by omega
  rcases this with rfl | rfl | rfl | rfl <;> decide +kernel
/-- the rows of one length that a mask tells -/
def levM (m : Str) (n k : Nat) : List (List Nat) := lev (sgn n).cps.toList (openM m) m.length k
def TopM (m : Str) (n k : Nat) : Prop := IsTop (sgn n).cps.toList (openM m) m.length k
theorem openM_lt (m : Str) : ∀ p ∈ openM m, p < m.length := fun p hp => open_lt hp
theorem topM_le {m : Str} {n k : Nat} (h : SmallM m n) (hk : levM m n k ≠ []) : k < n ^ (openM m).length + m.length := by
  have e : (sgn n).cps.toList.length = n := by rw [len_l, sgn_len h.2.2.1]
  have z := top_lt (isMask_len h.1).1 (openM_lt m) hk
  rw [e] at z
  exact z
/-- the rows that begin with r0, their views so far apart -/
def groM (far : Nat) (m : Str) (n : Nat) (r0 : List Nat) (k : Nat) : List (List Nat) := gro far (sgn n).cps.toList (openM m) m.length r0 k
def TopF (far : Nat) (m : Str) (n : Nat) (r0 : List Nat) (k : Nat) : Prop := IsTopF far (sgn n).cps.toList (openM m) m.length r0 k
def RowOk (far : Nat) (m : Str) (n : Nat) (r0 : List Nat) : Prop := (∀ c ∈ r0, c ∈ (sgn n).cps.toList) ∧ ap far (vws (openM m) m.length r0)
theorem groM_small {far : Nat} {m : Str} {n : Nat} {r0 : List Nat} (h : SmallM m n) (hf : 1 ≤ far) (h0 : RowOk far m n r0) (k : Nat) : (groM far m n r0 k).length ≤ 8388608 := by
  have l1 := isMask_len h.1
  have e : (sgn n).cps.toList.length = n := by rw [len_l, sgn_len h.2.2.1]
  exact gro_small hf (openM_lt m) l1.1 h0.1 h0.2 k (by rw [e]; exact h.2.1) (by rw [e]; exact h.rows)
theorem groM_each {far : Nat} {m : Str} {n k : Nat} {r0 : List Nat} (h : SmallM m n) (h0 : RowOk far m n r0) (hk : r0.length + k ≤ 100) : ∀ r ∈ groM far m n r0 k, (∀ c ∈ r, c ∈ (sgn n).cps.toList) ∧ ap far (vws (openM m) m.length r) ∧ r.length ≤ 100 := fun r hr => by
  obtain ⟨a, b, c⟩ := gro_each h0.1 h0.2 hr
  exact ⟨b, c, by omega⟩
theorem topM_leF {far : Nat} {m : Str} {n k : Nat} {r0 : List Nat} (h : SmallM m n) (hf : 1 ≤ far) (h0 : RowOk far m n r0) (hk : groM far m n r0 k ≠ []) : r0.length + k < n ^ (openM m).length + m.length := by
  have e : (sgn n).cps.toList.length = n := by rw [len_l, sgn_len h.2.2.1]
  have z := topF_lt hf (openM_lt m) (isMask_len h.1).1 h0.1 h0.2 hk
  rw [e] at z
  exact z
theorem row_ok_nil {far : Nat} {m : Str} {n : Nat} (h : isMask m = true) : RowOk far m n [] := ⟨(fun c hc => by cases hc), ap_nil (isMask_len h).1⟩
def spGreat : Sp := fun vs H Q _ => ∃ (a b n : Nat), vs = [.int (a : Int), .int (b : Int), .int (n : Int)] ∧ 1 ≤ n ∧ n ≤ 4 ∧ a ≤ SW n ∧ b ≤ SS n ∧ RetV .non H Q
def spSmall : Sp := fun vs H Q _ => ∃ (m : Str) (n : Nat), vs = [.str m, .int (n : Int)] ∧ SmallM m n ∧ RetV .non H Q
def spTold : Sp := fun vs H Q _ => ∃ (m : Str) (n k : Nat), vs = [.str m, .int (n : Int), .int (k : Int)] ∧ SmallM m n ∧ k ≤ 60 ∧ RetL (tS (levM m n k)) H Q
def spFar : Sp := fun vs H Q _ => ∃ (r0 : List Nat) (m : Str) (n far : Nat), vs = [.str (txt r0), .str m, .int (n : Int), .int (far : Int)] ∧ SmallM m n ∧ 1 ≤ far ∧ RowOk far m n r0 ∧ ∀ k, TopF far m n r0 k → RetL (tS (groM far m n r0 k)) H Q
def spLongRows : Sp := fun vs H Q _ => ∃ (m : Str) (n : Nat), vs = [.str m, .int (n : Int)] ∧ SmallM m n ∧ ∀ k, TopM m n k → RetL (tS (levM m n k)) H Q
def spLongest : Sp := fun vs H Q _ => ∃ (m : Str) (n : Nat), vs = [.str m, .int (n : Int)] ∧ SmallM m n ∧ ∀ k, TopM m n k → RetV (.int (k : Int)) H Q
section
variable {P : Program} {w : World} {K : PySem.W.Frag} {mg : Str → Option Value} {base : Heap} {CM CR CV CG fG CK fK a_SMALL_WIDTH a_SMALL_SEEN : Addr}
theorem ok_great (e : Ent K mg "check_great" s_check_great p_check_great) (T : Top K mg CM CR CV CG fG CK fK a_SMALL_WIDTH a_SMALL_SEEN) : Cal P w K mg base CX0 1 "check_great" p_check_great spGreat := by
  obtain ⟨f, fd, F, m_, b_⟩ := e
  refine ⟨f, fd, F.ok sc_check_great (fun vs H Q E h => ?_) (fun cdv A outer s H vs Q E hr h => ?_), m_, F.kp, b_⟩
  · obtain ⟨a, b, n, rfl, _⟩ := h
    rfl
  · obtain ⟨a, b, n, rfl, h1, h4, ha, hb, q⟩ := h
    have g1 : KDctI K a_SMALL_WIDTH (n : Int) (.int (SW n : Int)) := by
      have : n = 1 ∨ n = 2 ∨ n = 3 ∨ n = 4 := by omega
      rcases this with rfl | rfl | rfl | rfl
      · exact T.g_SMALL_WIDTH.2 (1, 12) (by simp)
      · exact T.g_SMALL_WIDTH.2 (2, 8) (by simp)
      · exact T.g_SMALL_WIDTH.2 (3, 5) (by simp)
      · exact T.g_SMALL_WIDTH.2 (4, 4) (by simp)
    have g2 : KDctI K a_SMALL_SEEN (n : Int) (.int (SS n : Int)) := by
      have : n = 1 ∨ n = 2 ∨ n = 3 ∨ n = 4 := by omega
      rcases this with rfl | rfl | rfl | rfl
      · exact T.g_SMALL_SEEN.2 (1, 12) (by simp)
      · exact T.g_SMALL_SEEN.2 (2, 4) (by simp)
      · exact T.g_SMALL_SEEN.2 (3, 2) (by simp)
      · exact T.g_SMALL_SEEN.2 (4, 1) (by simp)
    refine ⟨_, (pss_one (ps_if (PW.pt (pw_or (pt_cmpR op_gt (pv 0) (pe_ix ix_kdictI (pe_glob (v := .ref a_SMALL_WIDTH) (by rfl) T.g_SMALL_WIDTH.1 rfl) (pv 2) (fun _ _ => rfl)) (nomark _)) (pw_or1 (pt_cmpR op_gt (pv 1) (pe_ix ix_kdictI (pe_glob (v := .ref a_SMALL_SEEN) (by rfl) T.g_SMALL_SEEN.1 rfl) (pv 2) (fun _ _ => rfl)) (nomark _))))) (pss_one ps_never) pss_nil)), ?_⟩
    refine s_when (b := decide ((SW n : Int) < (a : Int)) || decide ((SS n : Int) < (b : Int))) (et_or (et_test (ev_op (ev_var rfl) (ev_op ev_c (ev_var rfl) (fun H1 _ Q q => ⟨_, _, _, rfl, rfl, g1, q H1 (Ex.refl _)⟩)) rv_I0)) fun _ => et_test (ev_op (ev_var rfl) (ev_op ev_c (ev_var rfl) (fun H1 _ Q q => ⟨_, _, _, rfl, rfl, g2, q H1 (Ex.refl _)⟩)) rv_I0)) (fun hh => ?_) (fun _ H1 e1 => q H1 e1)
    rw [decide_eq_false (by omega), decide_eq_false (by omega)] at hh
    cases hh
theorem ok_small (e : Ent K mg "check_small" s_check_small p_check_small) (T : Top K mg CM CR CV CG fG CK fK a_SMALL_WIDTH a_SMALL_SEEN) (c1 : Cal P w K mg base (L2.CX P w) 3 "check_mask" p_check_mask (spCheckMask K CM)) (c2 : Cal P w K mg base CX0 2 "check_letters" p_check_letters spLetters)
    (c3 : Cal P w K mg base CX0 1 "check_great" p_check_great spGreat) : Cal P w K mg base (L2.CX P w) 4 "check_small" p_check_small spSmall := by
  obtain ⟨f, fd, F, m_, b_⟩ := e
  obtain ⟨f_check_mask, fd_check_mask, G_check_mask, m_check_mask, k_check_mask, b_check_mask⟩ := c1
  obtain ⟨f_check_letters, fd_check_letters, G_check_letters, m_check_letters, k_check_letters, b_check_letters⟩ := c2
  obtain ⟨f_check_great, fd_check_great, G_check_great, m_check_great, k_check_great, b_check_great⟩ := c3
  refine ⟨f, fd, F.okX sc_check_small (fun vs H Q E h => ?_) (fun cdv A outer s H vs Q E hr h => ?_), m_, F.kp, b_⟩
  · obtain ⟨m, n, rfl, _⟩ := h
    rfl
  · obtain ⟨m, n, rfl, ⟨hm, h1, h4, hw, hs⟩, q⟩ := h
    have l1 := isMask_len hm
    refine ⟨_, (pss_cons (ps_expr (pe_call G_check_mask (hr.mono (by decide)) (by rfl) m_check_mask k_check_mask b_check_mask .nil (passes_call (takes_of rfl rfl rfl rfl) (fun _ _ _ _ h => h)) (pa_cons (pv 0) pa_nil)))
      (pss_cons (ps_expr (pe_call G_check_letters (hr.mono (by decide)) (by rfl) m_check_letters k_check_letters b_check_letters .nil pass0 (pa_cons (pv 1) pa_nil)))
      (pss_one (ps_expr (pe_call G_check_great (hr.mono (by decide)) (by rfl) m_check_great k_check_great b_check_great .nil pass0 (pa_cons (pe_callB call_len_str (by rfl) T.m_len (by decide +kernel) (pa_cons (pv 0) pa_nil)) (pa_cons (pe_m1 PySem.F.slot_str_count PySem.F.type_str_count mt_count (pv 0) pe_str) (pa_cons (pv 1) pa_nil)))))))), ?_⟩
    refine ⟨_, rfl, .str m, rfl, .str (by omega), fun _ H1 e1 => ?_, fun z => by rw [show isMaskV (.str m) = isMask m from rfl, hm] at z; cases z⟩
    refine ⟨_, rfl, n, rfl, h1, h4, fun H2 e2 => ?_⟩
    dsimp only [tSeq]
    refine s_drop (D := { nx := _, rt := _, bk := _, ct := _ }) (v := .non) (ev_call (ea_cons (ev_cb (ea_cons (ev_var rfl) ea_nil) (rc_lenS (z := m) (by omega))) (ea_cons (ev_is (ev_count (z := m) (c := 120) (ev_var rfl) (x_eq ▸ ev_c)) (by rw [count_range, len_l]; rfl)) (ea_cons (ev_var rfl) ea_nil))) fun H3 e3 Q2 q2 E2 => ⟨m.length, (openM m).length, n, rfl, h1, h4, hw, hs, q2⟩) fun H3 e3 => q H3 ((e1.trans e2).trans e3)
theorem small0 (c : Cal P w K mg base (L2.CX P w) 4 "check_small" p_check_small spSmall) : Cal P w K mg base CX0 4 "check_small" p_check_small spSmall := c.calm fun vs H Q E h => by
  obtain ⟨m, n, rfl, h1, q⟩ := h
  exact ⟨m, n, rfl, h1, q⟩
end
end K01
namespace K01
open PySem PySem.Spec PyProof.Rows L2 Evl Qt
theorem nb1 : ¬ (("begun" : Str) = "bits") := by decide +kernel
theorem nb2 : ¬ (("begun" : Str) = "width") := by decide +kernel
theorem nb3 : ¬ (("begun" : Str) = "signs") := by decide +kernel
theorem nl1 : ¬ (("longer" : Str) = "bits") := by decide +kernel
theorem nl2 : ¬ (("longer" : Str) = "width") := by decide +kernel
theorem nl3 : ¬ (("longer" : Str) = "signs") := by decide +kernel
theorem prs_rows {B : List Nat → Nat} {H : Hp} {xs : List V} {rs : List (List Nat)} (h : Prs B H xs rs) : (List.range xs.length).map (fun i => V.str (txt (rs.getD i []))) = tS rs := by
  rw [h.len, range_map_getD rs [] fun l => V.str (txt l)]
  rfl
theorem prs_pairs {K : PySem.W.Frag} {B : List Nat → Nat} {H : Hp} {xs : List V} {rs : List (List Nat)} (h : Prs B H xs rs) :
    ∀ i x, xs[i]? = some x → ∃ t, x = .ref t ∧ SqT K H t [V.str (txt (rs.getD i [])), V.int ((B (rs.getD i []) : Nat) : Int)] := fun i x hx => by
  obtain ⟨t, _, h2, h3⟩ := h.get hx
  exact ⟨t, h2, st_of h3⟩
section
variable {P : Program} {w : World} {K : PySem.W.Frag} {mg : Str → Option Value} {base : Heap} {CM CR CV CG fG CK fK a_SMALL_WIDTH a_SMALL_SEEN : Addr}
theorem ok_far (e : EntD K mg "farthest_rows" s_farthest_rows p_farthest_rows 1) (T : Top K mg CM CR CV CG fG CK fK a_SMALL_WIDTH a_SMALL_SEEN) (c1 : Cal P w K mg base CX0 5 "window_bits" p_window_bits (spBits K)) : CalD P w K mg base CX0 8 "farthest_rows" p_farthest_rows spFar 1 := by
  obtain ⟨f, fd, dds, F, m_, b_, vd_, bd_⟩ := e
  obtain ⟨fd_Growth_init, G_Growth_init, b_Growth_init⟩ := ok_ginit T c1
  obtain ⟨g_begun, fd_begun, mt_Growth_begun, G_Growth_begun, b_Growth_begun⟩ := ok_begun (P := P) (w := w) (base := base) T
  obtain ⟨g_longer, fd_longer, mt_Growth_longer, G_Growth_longer, b_Growth_longer⟩ := ok_longer (P := P) (w := w) (base := base) T
  have cl_Growth := T.c_Growth.cl
  have M_Growth := T.c_Growth.mks
  have mc_Growth := T.c_Growth.m
  refine ⟨f, fd, dds, FunD.ok0 F sc_farthest_rows (fun vs H Q E h => ?_) (fun cdv A outer s H vs Q E hr h => ?_), m_, F.kp, b_, vd_, bd_⟩
  · obtain ⟨r0, m, n, far, rfl, _⟩ := h
    rfl
  · obtain ⟨r0, m, n, far, rfl, hsm, hf, h0, q⟩ := h
    have hm := hsm.1
    have l1 := isMask_len hm
    have top := hsm.top
    have hr0 : r0.length ≤ 24 := by
      have z := topM_leF (k := 0) hsm hf h0 (by intro z; cases z)
      omega
    refine ⟨_, (pss_cons (ps_set (i := 4) sc_farthest_rows.nd rfl (Or.inl rfl) (pe_make M_Growth G_Growth_init (hr.mono (by decide)) (by rfl) mc_Growth b_Growth_init .nil pass0 (pa_cons (pv 1) (pa_cons (pv 2) (pa_cons (pv 3) pa_nil)))))
      (pss_cons (ps_set (i := 5) sc_farthest_rows.nd rfl (Or.inl rfl) (pe_meth (pv 4) cl_Growth mt_Growth_begun G_Growth_begun (hr.mono (by decide)) b_Growth_begun .nil pass0 (pa_cons (pv 0) pa_nil)))
      (pss_cons (ps_whileW PassesOwn.never (ptw_truth (pew_named (i := 6) sc_farthest_rows.nd rfl (Or.inl rfl) (pew_of (pe_meth (pv 4) cl_Growth mt_Growth_longer G_Growth_longer (hr.mono (by decide)) b_Growth_longer .nil pass0 (pa_cons (pv 5) pa_nil))))) (pss_one (ps_set (i := 5) sc_farthest_rows.nd rfl (Or.inl rfl) (pv 6))) pss_nil)
      (pss_one (ps_ret (pe_lc (own := [("made", 7), ("_", 8)]) (g := gTup K 2 (gCons (gName 7) (gCons (gName 8) gNil))) (by rfl) sc_farthest_rows.nd (pi_list (pv 5)) (blkOk_by (own := [("made", 7), ("_", 8)]) (N := n_farthest_rows) (sc := (defScope s_farthest_rows)) (by decide +kernel)) (fun _ _ _ _ _ => by exact (pg_tup rfl (pgs_cons (by exact pg_name (i := 7) sc_farthest_rows.nd rfl (Or.inl rfl)) (pgs_cons (by exact pg_name (i := 8) sc_farthest_rows.nd rfl (Or.inl rfl)) pgs_nil)))) (fun _ _ _ _ _ => pts_nil) (fun _ _ _ _ _ => (pv 7)))))))), ?_⟩
    refine ⟨_, rfl, _, rfl, _, rfl, fun x dx nx ndx ne => ?_⟩
    have eO : Ex H (upd (upd H dx (.own x)) x (.ins CG dx [])) := (Ex.new ndx).trans (Ex.new (by rw [upd_ne ne.symm]; exact nx))
    refine ⟨H, x, dx, m, n, far, rfl, eO, nx, upd_same, hm, hsm.2.1, hsm.2.2.1, hsm.words, fun H1 e1 hg => ⟨rfl, ?_⟩⟩
    obtain ⟨dx1, d, kvs, hx1, hd1, hb1⟩ := hg
    refine ⟨_, rfl, x, dx1, _, rfl, hx1, gF_no _ _ _ nb1 nb2 nb3, _, rfl, x, m, sgn n, far, r0, rfl, hm, ⟨dx1, d, kvs, hx1, hd1, hb1⟩, h0.1, by omega, fun p xs H2 e2 np hp hprs => ?_⟩
    refine ⟨fun mm σ' H' => Ex H1 H' ∧ ∃ i p ys x6 x7 x8, mm + i = n ^ (openM m).length + m.length ∧ H' p = some (.lst ys) ∧ groM far m n r0 i ≠ [] ∧ PrsM far m (sgn n) H' ys (groM far m n r0 i) ∧ σ' = [some (.str (txt r0)), some (.str m), some (.int (n : Int)), some (.int (far : Int)), some (.ref x), some (.ref p), x6, x7, x8],
      ⟨n ^ (openM m).length + m.length, e2, 0, p, xs, _, _, _, rfl, hp, (by intro z; cases z), hprs, rfl⟩, fun mm σ' H' hw => ?_⟩
    obtain ⟨eH, i, p, ys, x6, x7, x8, hmm, hp, hne, hprs, rfl⟩ := hw
    have hi := topM_leF hsm hf h0 hne
    refine ⟨_, rfl, x, dx1, _, rfl, eH _ _ hx1, gF_no _ _ _ nl1 nl2 nl3, _, rfl, x, p, m, sgn n, far, ys, groM far m n r0 i, rfl, hm, by rw [sgn_len hsm.2.2.1]; exact hsm.2.2.1, ⟨dx1, d, kvs, eH _ _ hx1, eH _ _ hd1, hb1.ex eH⟩, hp, hprs, groM_each hsm h0 (by omega), groM_small hsm hf h0 (i + 1), fun p2 ys2 H3 e3 np2 hp2 hprs2 => ?_⟩
    refine ⟨!ys2.isEmpty, .inl ⟨ys2, sq_of hp2, rfl⟩, ?_⟩
    have hl2 := hprs2.len
    cases ey : ys2 with
    | cons y t =>
      rw [ey] at hl2 hp2 hprs2
      have hne2 : groM far m n r0 (i + 1) ≠ [] := fun z => by
        rw [show (groM far m n r0 i).flatMap (stp far (sgn n).cps.toList (openM m) m.length) = groM far m n r0 (i + 1) from rfl, z] at hl2
        cases hl2
      have hi2 := topM_leF hsm hf h0 hne2
      refine (if_pos rfl).mpr ?_
      refine ⟨_, fun σ'' H'' z => ⟨mm - 1, by omega, z⟩, _, rfl, eH.trans e3, i + 1, p2, y :: t, _, _, _, by omega, hp2, hne2, hprs2, rfl⟩
    | nil =>
      rw [ey] at hl2 hp2 hprs2
      have hem : groM far m n r0 (i + 1) = [] := List.length_eq_zero_iff.mp hl2.symm
      refine (if_neg (by decide)).mpr ?_
      have hp3 := e3 _ _ hp
      have hprs3 := hprs.ex e3
      have hl := groM_small hsm hf h0 i
      refine s_retL (xs := tS (groM far m n r0 i)) (el_is (el_lcP (K := K) (xs := ys) (fun j => V.str (txt ((groM far m n r0 i).getD j []))) _ (fun j => V.str (txt ((groM far m n r0 i).getD j []))) (ev_var rfl) (sq_of hp3) (prs_pairs hprs3) (by rw [hprs.len, sizeLine_eq]; omega) (fun _ _ => rfl) (fun j H4 e4 hj => ev_var rfl)) (prs_rows hprs3)) fun p3 H4 np3 e4 hp4 => ?_
      exact q i ⟨hne, hem⟩ p3 H4 (fresh_back ((e1.trans eH).trans e3) np3) (((e1.trans eH).trans e3).trans e4) hp4
end
end K01
namespace K01
open PySem PySem.Spec PyProof.Rows L2 Evl Qt
/-- the lists of rows of each length -/
def Lvs (m : Str) (n : Nat) (H : Hp) (ls : List V) (c : Nat) : Prop := ls.length = c ∧ ∀ i, i < c → ∃ q, ls[i]? = some (.ref q) ∧ H q = some (.lst (tS (levM m n i)))
section
variable {P : Program} {w : World} {K : PySem.W.Frag} {mg : Str → Option Value} {base : Heap} {CM CR CV CG fG CK fK a_SMALL_WIDTH a_SMALL_SEEN : Addr}
theorem ok_long_rows (e : Ent K mg "longest_rows" s_longest_rows p_longest_rows) (T : Top K mg CM CR CV CG fG CK fK a_SMALL_WIDTH a_SMALL_SEEN) (c1 : Cal P w K mg base CX0 4 "check_small" p_check_small spSmall) (c2 : CalD P w K mg base CX0 8 "farthest_rows" p_farthest_rows spFar 1) : Cal P w K mg base CX0 9 "longest_rows" p_longest_rows spLongRows := by
  obtain ⟨f, fd, F, m_, b_⟩ := e
  obtain ⟨f_check_small, fd_check_small, G_check_small, m_check_small, k_check_small, b_check_small⟩ := c1
  obtain ⟨f_farthest_rows, fd_farthest_rows, ds_farthest_rows, G_farthest_rows, m_farthest_rows, k_farthest_rows, b_farthest_rows, vd_farthest_rows, bd_farthest_rows⟩ := c2
  refine ⟨f, fd, F.ok sc_longest_rows (fun vs H Q E h => ?_) (fun cdv A outer s H vs Q E hr h => ?_), m_, F.kp, b_⟩
  · obtain ⟨m, n, rfl, _⟩ := h
    rfl
  · obtain ⟨m, n, rfl, hsm, q⟩ := h
    refine ⟨_, (pss_cons (ps_expr (pe_call G_check_small (hr.mono (by decide)) (by rfl) m_check_small k_check_small b_check_small .nil pass0 (pa_cons (pv 0) (pa_cons (pv 1) pa_nil))))
      (pss_one (ps_ret (pe_call G_farthest_rows (hr.mono (by decide)) (by rfl) m_farthest_rows k_farthest_rows bd_farthest_rows vd_farthest_rows pass0 (pa_cons pe_str (pa_cons (pv 0) (pa_cons (pv 1) pa_nil))))))), ?_⟩
    refine ⟨_, rfl, _, rfl, m, n, rfl, hsm, fun H1 e1 => ?_⟩
    exact ⟨_, rfl, _, rfl, [], m, n, 1, by rw [nil_txt]; rfl, hsm, Nat.le_refl _, row_ok_nil hsm.1, fun k hk p H2 np e2 hp => q k hk p H2 (fresh_back e1 np) (e1.trans e2) hp⟩
theorem ok_longest (e : Ent K mg "longest" s_longest p_longest) (T : Top K mg CM CR CV CG fG CK fK a_SMALL_WIDTH a_SMALL_SEEN) (c1 : Cal P w K mg base CX0 9 "longest_rows" p_longest_rows spLongRows) : Cal P w K mg base CX0 10 "longest" p_longest spLongest := by
  obtain ⟨f, fd, F, m_, b_⟩ := e
  obtain ⟨f_longest_rows, fd_longest_rows, G_longest_rows, m_longest_rows, k_longest_rows, b_longest_rows⟩ := c1
  refine ⟨f, fd, F.ok sc_longest (fun vs H Q E h => ?_) (fun cdv A outer s H vs Q E hr h => ?_), m_, F.kp, b_⟩
  · obtain ⟨m, n, rfl, _⟩ := h
    rfl
  · obtain ⟨m, n, rfl, hsm, q⟩ := h
    refine ⟨_, (pss_one (ps_ret (pe_callB call_len_str (by rfl) T.m_len (by decide +kernel) (pa_cons (pe_ix ix_list (pe_call G_longest_rows (hr.mono (by decide)) (by rfl) m_longest_rows k_longest_rows b_longest_rows .nil pass0 (pa_cons (pv 0) (pa_cons (pv 1) pa_nil))) pe_int (fun _ _ => rfl)) pa_nil)))), ?_⟩
    refine ⟨_, rfl, _, rfl, m, n, rfl, hsm, fun k hk p H2 np e2 hp => ?_⟩
    cases el : levM m n k with
    | nil => exact absurd el hk.1
    | cons r t =>
      obtain ⟨hlen, _, _⟩ := lev_each (isMask_len hsm.1).1 (show r ∈ levM m n k by rw [el]; exact List.mem_cons_self)
      have hkk := topM_le hsm hk.1
      have htop := hsm.top
      rw [el] at hp
      refine ⟨p, _, 0, .str (txt r), rfl, rfl, sq_of hp, (atI_nat (j := 0) rfl : atI (tS (r :: t)) ((0 : Nat) : Int) = _), txt r, rfl, by rw [txt_len, sizeLine_eq]; omega, ?_⟩
      rw [txt_len, hlen]
      exact q k hk H2 e2
end
end K01
namespace K01
open PySem PySem.Spec PyProof.Rows L2 Evl Qt
def masksL (w : Nat) : List (List Nat) := if w = 1 then [[120]] else (wordsL [46, 120] (w - 2)).map fun l => 120 :: l ++ [120]
def masksTo (w : Nat) : List (List Nat) := (List.range w).flatMap fun i => masksL (1 + i)
def spMasksOf : Sp := fun vs H Q _ => ∃ n : Nat, vs = [.int (n : Int)] ∧ 1 ≤ n ∧ n ≤ 12 ∧ RetL (tS (masksL n)) H Q
def spMasksTo : Sp := fun vs H Q _ => ∃ n : Nat, vs = [.int (n : Int)] ∧ n ≤ 12 ∧ RetL (tS (masksTo n)) H Q
theorem masks_len {w : Nat} (h : w ≤ 12) : (masksL w).length ≤ 1100 := by
  unfold masksL
  split
  · simp
  · rw [List.length_map, words_len]
    show 2 ^ (w - 2) ≤ 1100
    have : 2 ^ (w - 2) ≤ 2 ^ 10 := Nat.pow_le_pow_right (by omega) (by omega)
    omega
theorem masks_each {w : Nat} {l : List Nat} (h1 : 1 ≤ w) (h2 : w ≤ 12) (h : l ∈ masksL w) : isMask (txt l) = true ∧ l.length = w := by
  unfold masksL at h
  split at h
  · rename_i e
    have : l = [120] := by simpa using h
    subst this
    exact ⟨by decide +kernel, by rw [e]; rfl⟩
  · rename_i e
    obtain ⟨u, hu, rfl⟩ := List.mem_map.mp h
    obtain ⟨e1, e2⟩ := words_each hu
    have e3 : (120 :: u ++ [120]).length = w := by simp; omega
    refine ⟨isMask_of (fun c hc => ?_) (by rw [txt_len]; omega) (by rw [txt_len]; omega) ?_ ?_, e3⟩
    · rw [txt_l] at hc
      simp at hc
      rcases hc with rfl | hc | rfl
      · exact .inl rfl
      · have := e2 c hc
        simp at this
        exact this.symm
      · exact .inl rfl
    · unfold fst
      rw [txt_l]
      rfl
    · unfold lst
      rw [txt_l, txt_len]
      simp
theorem masksTo_succ (w : Nat) : masksTo (w + 1) = masksTo w ++ masksL (1 + w) := by
  unfold masksTo
  rw [List.range_succ, List.flatMap_append, List.flatMap_singleton]
theorem masksTo_len {w : Nat} (h : w ≤ 12) : (masksTo w).length ≤ w * 1100 := by
  induction w with
  | zero => simp [masksTo]
  | succ w ih =>
    rw [masksTo_succ, List.length_append, Nat.succ_mul]
    have a := ih (by omega)
    have b := masks_len (w := 1 + w) (by omega)
    omega
theorem masksTo_each {w : Nat} {l : List Nat} (h2 : w ≤ 12) (h : l ∈ masksTo w) : isMask (txt l) = true ∧ l.length ≤ w := by
  unfold masksTo at h
  obtain ⟨i, hi, hl⟩ := List.mem_flatMap.mp h
  have := List.mem_range.mp hi
  obtain ⟨a, b⟩ := masks_each (by omega) (by omega) hl
  exact ⟨a, by omega⟩
theorem masks_flat (n : Nat) : given2 (fun i => (tS (masksL (1 + i))).length) (fun i m => (tS (masksL (1 + i))).getD m .non) n = tS (masksTo n) := by
  unfold given2
  induction n with
  | zero => rfl
  | succ n ih =>
    rw [List.range_succ, List.flatMap_append, List.flatMap_singleton, ih, masksTo_succ]
    unfold tS
    rw [List.map_append]
    have z := range_map_getD ((masksL (1 + n)).map fun w => V.str (txt w)) .non id
    rw [List.map_id] at z
    exact congrArg _ z
theorem x_app (l : List Nat) : (PySem.Str.ofString "x" ++ txt l) ++ PySem.Str.ofString "x" = txt (120 :: l ++ [120]) := by
  apply str_ext
  rw [str_app, str_app, txt_l, txt_l, xone]
  rfl
theorem x_txt : PySem.Str.ofString "x" = txt [120] := by decide +kernel
section
variable {P : Program} {w : World} {K : PySem.W.Frag} {mg : Str → Option Value} {base : Heap} {CM CR CV CG fG CK fK a_SMALL_WIDTH a_SMALL_SEEN : Addr}
theorem ok_masks_of (e : Ent K mg "masks_of" s_masks_of p_masks_of) (T : Top K mg CM CR CV CG fG CK fK a_SMALL_WIDTH a_SMALL_SEEN) (c1 : Cal P w K mg base CX0 1 "words" p_words spWords) : Cal P w K mg base CX0 2 "masks_of" p_masks_of spMasksOf := by
  obtain ⟨f, fd, F, m_, b_⟩ := e
  obtain ⟨f_words, fd_words, G_words, m_words, k_words, b_words⟩ := c1
  refine ⟨f, fd, F.ok sc_masks_of (fun vs H Q E h => ?_) (fun cdv A outer s H vs Q E hr h => ?_), m_, F.kp, b_⟩
  · obtain ⟨n, rfl, _⟩ := h
    rfl
  · obtain ⟨n, rfl, h1, h2, q⟩ := h
    refine ⟨_, (pss_cons (ps_if (pt_cmpR op_eq (pv 0) pe_int (nomark _)) (pss_one (ps_ret (pe_lst (pa_cons pe_str pa_nil)))) pss_nil)
      (pss_one (ps_ret (pe_lc (own := [("inner", 1)]) (g := gName 1) (by rfl) sc_masks_of.nd (pi_list (pe_call G_words (hr.mono (by decide)) (by rfl) m_words k_words b_words .nil pass0 (pa_cons pe_str (pa_cons (pe_op op_sub (pv 0) pe_int) pa_nil)))) (blkOk_by (own := [("inner", 1)]) (N := n_masks_of) (sc := (defScope s_masks_of)) (by decide +kernel)) (fun _ _ _ _ _ => pg_name (i := 1) sc_masks_of.nd rfl (Or.inl rfl)) (fun _ _ _ _ _ => pts_nil) (fun _ _ _ _ _ => (pe_op op_add_str (pe_op op_add_str pe_str (pv 1)) pe_str)))))), ?_⟩
    refine q_when (b := decide (V.int (n : Int) = V.int 1)) (et_test (ev_op (ev_var rfl) ev_c (rv_eq rfl))) (fun h H1 e1 => ?_) (fun h H1 e1 => ?_)
    · have hn : n = 1 := by
        have := of_decide_eq_true h
        injection this with this
        omega
      subst hn
      exact s_retL (xs := tS (masksL 1)) (el_is (el_lst (ea_cons ev_c ea_nil) (by simp)) (by rw [x_txt]; rfl)) fun p H2 np e2 hp => q p H2 (fresh_back e1 np) (e1.trans e2) hp
    · have hn : n ≠ 1 := fun z => of_decide_eq_false h (by rw [z]; rfl)
      have e2 : (2 : Nat) ^ (n - 2) ≤ 2 ^ 10 := Nat.pow_le_pow_right (by omega) (by omega)
      refine s_retL (xs := tS (masksL n)) (el_is (el_lcNL (xs := tS (wordsL [46, 120] (n - 2))) (fun _ => true) (fun i => V.str (txt (120 :: (wordsL [46, 120] (n - 2)).getD i [] ++ [120]))) (el_call (ea_cons ev_c (ea_cons (ev_op (ev_var rfl) ev_c rv_I0) ea_nil)) fun G e Q q E => ⟨PySem.Str.ofString ".x", n - 2, ?_, by decide +kernel, by decide +kernel, by omega, ?_, ?_⟩)
        (by rw [tS_len, words_len]; show 2 ^ (n - 2) ≤ _; omega) (fun _ => rfl) (fun _ _ _ _ _ => et_yes) (fun i x H3 e3 hx _ => ?_)) ?_) fun p H2 np e2 hp => q p H2 (fresh_back e1 np) (e1.trans e2) hp
      · show [V.str _, V.int ((n : Int) - 2)] = [V.str _, V.int ((n - 2 : Nat) : Int)]
        rw [show ((n : Int) - 2) = ((n - 2 : Nat) : Int) by omega]
      · rw [show (PySem.Str.ofString ".x").length = 2 by decide +kernel]
        omega
      · rw [dx_l]
        exact q
      · obtain ⟨hi, rfl⟩ := tS_get hx
        have := (words_each (mem_getDL (d := []) hi)).1
        rw [← x_app]
        exact ev_op (ev_op ev_c (ev_var rfl) (rv_addS (by rw [x_len, txt_len]; omega))) ev_c (rv_addS (by rw [app_len, x_len, txt_len]; omega))
      · rw [given_all, tS_len, range_map_getD (wordsL [46, 120] (n - 2)) [] fun l => V.str (txt (120 :: l ++ [120]))]
        unfold tS masksL
        rw [if_neg hn, List.map_map]
        rfl
theorem ok_masks_to (e : Ent K mg "masks_to" s_masks_to p_masks_to) (T : Top K mg CM CR CV CG fG CK fK a_SMALL_WIDTH a_SMALL_SEEN) (c1 : Cal P w K mg base CX0 2 "masks_of" p_masks_of spMasksOf) : Cal P w K mg base CX0 3 "masks_to" p_masks_to spMasksTo := by
  obtain ⟨f, fd, F, m_, b_⟩ := e
  obtain ⟨f_masks_of, fd_masks_of, G_masks_of, m_masks_of, k_masks_of, b_masks_of⟩ := c1
  refine ⟨f, fd, F.ok sc_masks_to (fun vs H Q E h => ?_) (fun cdv A outer s H vs Q E hr h => ?_), m_, F.kp, b_⟩
  · obtain ⟨n, rfl, _⟩ := h
    rfl
  · obtain ⟨n, rfl, h1, q⟩ := h
    refine ⟨_, (pss_one (ps_ret (pe_lc2 (own := [("narrow", 1), ("mask", 2)]) (vs1 := [2]) (g := (gName 1)) (g1 := (gName 2)) (by rfl) sc_masks_to.nd (pi_range2 (by rfl) T.m_range (pa_cons pe_int (pa_cons (pe_op op_add (pv 0) pe_int) pa_nil))) (blkOk_by (own := [("narrow", 1), ("mask", 2)]) (N := n_masks_to) (sc := (defScope s_masks_to)) (by decide +kernel)) (by decide) (fun _ _ _ _ _ => pg_name (i := 1) sc_masks_to.nd rfl (Or.inl rfl)) (fun _ _ _ _ _ => pts_nil) (fun _ _ _ _ _ => by exact ((pi_listK K rfl) (pe_call G_masks_of (hr.mono (by decide)) (by rfl) m_masks_of k_masks_of b_masks_of .nil pass0 (pa_cons (pv 1) pa_nil)))) (fun _ _ _ _ _ => pg_name (i := 2) sc_masks_to.nd rfl (Or.inl rfl)) (fun _ _ _ _ _ => pts_nil) (fun _ _ _ _ _ => (pv 2))))), ?_⟩
    refine s_retL (xs := tS (masksTo n)) (el_is (el_lc2RL (lo := 1) (n := (n : Int) + 1) (ys := fun i => if i < n then tS (masksL (1 + i)) else []) (fun i m => (tS (masksL (1 + i))).getD m .non) (ea_cons ev_c (ea_cons (ev_op (ev_var rfl) ev_c rv_I0) ea_nil)) (by omega) (fun i => ?_) (fun _ => rfl) (fun _ _ => rfl)
      (fun i H1 e1 hi => ?_) (fun i m z H1 e1 hi hz => ?_)) ?_) q
    · split
      · rw [tS_len]
        exact Nat.le_trans (masks_len (by omega)) (by omega)
      · simp
    · rw [if_pos (by omega)]
      exact el_call (ea_cons (ev_var rfl) ea_nil) fun G e Q q E => ⟨1 + i, by rw [show ((1 : Int) + (i : Int)) = ((1 + i : Nat) : Int) by omega]; rfl, by omega, by omega, q⟩
    · rw [if_pos (by omega)] at hz
      refine ev_is (ev_var rfl) ?_
      rw [List.getD_eq_getElem?_getD, hz]
      rfl
    · rw [show ((n : Int) + 1 - 1).toNat = n by omega, ← masks_flat]
      unfold given2
      rw [List.flatMap_def, List.flatMap_def]
      refine congrArg List.flatten (List.map_congr_left fun i hi => ?_)
      dsimp only
      rw [if_pos (List.mem_range.mp hi)]
end
theorem top_ex {sg l : List Nat} {w : Nat} : ∀ d, lev sg l w d = [] → ∃ k, IsTop sg l w k
  | 0, h => by cases h
  | d + 1, h => by
    by_cases e : lev sg l w d = []
    · exact top_ex d e
    · exact ⟨d, e, h⟩
open Classical in
noncomputable def tp (m : Str) (n : Nat) : Nat := if h : ∃ k, TopM m n k then Classical.choose h else 0
theorem tp_top {m : Str} {n : Nat} (h : SmallM m n) : TopM m n (tp m n) := by
  have l1 := isMask_len h.1
  have e : ∃ k, TopM m n k := top_ex _ (lev_end (sg := (sgn n).cps.toList) (l := openM m) (w := m.length) l1.1 (openM_lt m) (Nat.le_refl _))
  unfold tp
  rw [dif_pos e]
  exact Classical.choose_spec e
def hasM (k : Nat) (l : List Nat) : Bool := decide (l.countP (fun d => decide (d = 120)) = k)
def lotsM (wd k : Nat) : List (List Nat) := (masksTo wd).filter (hasM k)
theorem open_count (l : List Nat) : (openM (txt l)).length = l.countP fun d => decide (d = 120) := by
  rw [count_range]
  unfold openM
  rw [txt_l, txt_len]
theorem lots_small {wd k n : Nat} {l : List Nat} (h1 : 1 ≤ n) (h4 : n ≤ 4) (hw : wd ≤ SW n) (hk : k ≤ SS n) (h12 : wd ≤ 12) (hl : l ∈ masksTo wd) (hc : hasM k l = true) : SmallM (txt l) n := by
  obtain ⟨a, b⟩ := masksTo_each h12 hl
  have c : l.countP (fun d => decide (d = 120)) = k := of_decide_eq_true hc
  exact ⟨a, h1, h4, by rw [txt_len]; omega, by rw [open_count, c]; exact hk⟩
theorem masks_nodup (w : Nat) : (masksL w).Nodup := by
  unfold masksL
  split
  · simp
  · unfold List.Nodup
    rw [List.pairwise_map]
    exact (words_nodup (by decide) _).imp fun {a b} hne e => hne (by simpa using e)
theorem masksTo_nodup {w : Nat} (h : w ≤ 12) : (masksTo w).Nodup := by
  unfold masksTo
  unfold List.Nodup
  rw [List.pairwise_flatMap]
  refine ⟨fun i _ => masks_nodup _, ?_⟩
  rw [List.pairwise_iff_getElem]
  intro i j hi hj hij x hx y hy e
  rw [List.length_range] at hi hj
  rw [List.getElem_range] at hx hy
  have a := (masks_each (w := 1 + i) (by omega) (by omega) hx).2
  have b := (masks_each (w := 1 + j) (by omega) (by omega) hy).2
  rw [e] at a
  omega
theorem masksTo_diff {w : Nat} (h : w ≤ 12) : ∀ a b, a < b → b < (masksTo w).length → ksT ((masksTo w).getD a []) ≠ ksT ((masksTo w).getD b []) := fun a b hab hb e => by
  have z := masksTo_nodup h
  unfold List.Nodup at z
  rw [List.pairwise_iff_getElem] at z
  have e2 := ks_inj e
  rw [List.getD_eq_getElem?_getD, List.getD_eq_getElem?_getD, List.getElem?_eq_getElem (by omega), List.getElem?_eq_getElem hb] at e2
  exact z a b (by omega) hb hab e2
/-- the greatest of some numbers, 0 for none -/
def mx (l : List Nat) : Nat := l.foldl max 0
theorem mx_go : ∀ (l : List Nat) (a : Nat), a ≤ l.foldl max a ∧ (∀ x ∈ l, x ≤ l.foldl max a) ∧ (l.foldl max a = a ∨ l.foldl max a ∈ l)
  | [], a => ⟨Nat.le_refl _, (fun x h => by cases h), Or.inl rfl⟩
  | y :: l, a => by
    obtain ⟨h1, h2, h3⟩ := mx_go l (max a y)
    rw [List.foldl_cons]
    refine ⟨by omega, fun x hx => ?_, ?_⟩
    · rcases List.mem_cons.mp hx with rfl | hx
      · omega
      · exact h2 x hx
    · rcases h3 with h3 | h3
      · by_cases hm : a ≤ y
        · refine .inr ?_
          rw [h3, Nat.max_eq_right hm]
          exact List.mem_cons_self
        · refine .inl ?_
          rw [h3, Nat.max_eq_left (by omega)]
      · exact .inr (List.mem_cons_of_mem _ h3)
theorem mx_is {l : List Nat} {m : Int} (h : m ∈ l.map fun (x : Nat) => (x : Int)) (hb : ∀ y, y ∈ (l.map fun (x : Nat) => (x : Int)) → y ≤ m) : m = (mx l : Int) := by
  obtain ⟨x, hx, rfl⟩ := List.mem_map.mp h
  obtain ⟨h1, h2, h3⟩ := mx_go l 0
  unfold mx
  have a := h2 x hx
  rcases h3 with h3 | h3
  · rw [h3] at a ⊢
    omega
  · have b := hb _ (List.mem_map.mpr ⟨_, h3, rfl⟩)
    omega
noncomputable def bestM (wd k n : Nat) : Nat := mx ((lotsM wd k).map fun l => tp (txt l) n)
noncomputable def bestL (wd k n : Nat) : List (List Nat) := (lotsM wd k).filter fun l => decide (tp (txt l) n = bestM wd k n)
def spBest : Sp := fun vs H Q _ => ∃ (k wd n : Nat), vs = [.int (k : Int), .int (wd : Int), .int (n : Int)] ∧ 1 ≤ k ∧ 1 ≤ wd ∧ 1 ≤ n ∧ n ≤ 4 ∧ wd ≤ SW n ∧ k ≤ SS n ∧
  ∀ p L H', Ex H H' → H' L = some (.lst (tS (bestL wd k n))) → H' p = some (.tup [.int (bestM wd k n : Int), .ref L]) → Q (.ref p) H'
theorem filt_map {α β : Type} (l : List α) (d : α) (p : α → Bool) (g : α → β) : ((List.range l.length).filter fun i => p (l.getD i d)).map (fun i => g (l.getD i d)) = (l.filter p).map g := by
  have e : l = (List.range l.length).map fun i => l.getD i d := by
    apply List.ext_getElem
    · simp
    · intro i h1 h2
      simp [List.getD_eq_getElem?_getD, List.getElem?_eq_getElem h1]
  conv => rhs; rw [e, List.filter_map, List.map_map]
  rfl
theorem valV_at {κ : Type} [DecidableEq κ] : ∀ {kvs : List (κ × V)} {i : Nat} {k : κ} {v : V}, (kvs.map (·.1)).Nodup → kvs[i]? = some (k, v) → valV kvs k = some v
  | p :: r, 0, k, v, _, e => by
    obtain rfl := Option.some.inj e
    exact valV_pos rfl
  | p :: r, i + 1, k, v, h, e => by
    rw [List.map_cons, List.nodup_cons] at h
    have hm : (k, v) ∈ r := List.mem_of_getElem? (i := i) e
    have hne : ¬ p.1 = k := fun z => h.1 (List.mem_map.mpr ⟨(k, v), hm, z.symm⟩)
    rw [valV_neg hne]
    exact valV_at (i := i) h.2 e
def spNum0 : Sp := fun vs H Q _ => ∃ (v lo hi : Int), vs = [.int v, .int lo, .int hi] ∧ lo ≤ v ∧ v ≤ hi ∧ RetV .non H Q
noncomputable def kvM (wd k n : Nat) : List (Key × V) := (lotsM wd k).map fun l => (ksT l, V.int ((tp (txt l) n : Nat) : Int))
theorem lots_nodup {wd k : Nat} (h : wd ≤ 12) : (lotsM wd k).Nodup := List.Pairwise.filter _ (masksTo_nodup h)
theorem kv_nodup {wd k n : Nat} (h : wd ≤ 12) : ((kvM wd k n).map (·.1)).Nodup := by
  unfold kvM
  rw [List.map_map]
  unfold List.Nodup
  rw [List.pairwise_map]
  exact (lots_nodup h).imp fun {a b} hne e => hne (ks_inj e)
section
variable {P : Program} {w : World} {K : PySem.W.Frag} {mg : Str → Option Value} {base : Heap} {CM CR CV CG fG CK fK a_SMALL_WIDTH a_SMALL_SEEN : Addr}
theorem ok_best (e : Ent K mg "best_masks" s_best_masks p_best_masks) (T : Top K mg CM CR CV CG fG CK fK a_SMALL_WIDTH a_SMALL_SEEN) (c1 : Cal P w K mg base CX0 5 "check_number" p_check_number spNum0) (c2 : Cal P w K mg base CX0 2 "check_letters" p_check_letters spLetters)
    (c3 : Cal P w K mg base CX0 1 "check_great" p_check_great spGreat) (c4 : Cal P w K mg base CX0 3 "masks_to" p_masks_to spMasksTo) (c5 : Cal P w K mg base CX0 10 "longest" p_longest spLongest) : Cal P w K mg base CX0 11 "best_masks" p_best_masks spBest := by
  obtain ⟨f, fd, F, m_, b_⟩ := e
  obtain ⟨f_check_number, fd_check_number, G_check_number, m_check_number, k_check_number, b_check_number⟩ := c1
  obtain ⟨f_check_letters, fd_check_letters, G_check_letters, m_check_letters, k_check_letters, b_check_letters⟩ := c2
  obtain ⟨f_check_great, fd_check_great, G_check_great, m_check_great, k_check_great, b_check_great⟩ := c3
  obtain ⟨f_masks_to, fd_masks_to, G_masks_to, m_masks_to, k_masks_to, b_masks_to⟩ := c4
  obtain ⟨f_longest, fd_longest, G_longest, m_longest, k_longest, b_longest⟩ := c5
  refine ⟨f, fd, F.ok sc_best_masks (fun vs H Q E h => ?_) (fun cdv A outer s H vs Q E hr h => ?_), m_, F.kp, b_⟩
  · obtain ⟨k, wd, n, rfl, _⟩ := h
    rfl
  · obtain ⟨k, wd, n, rfl, k1, w1, h1, h4, hw, hk, q⟩ := h
    have sw : SW n ≤ 12 := by unfold SW; split <;> (try split) <;> (try split) <;> omega
    have ss : SS n ≤ 12 := by unfold SS; split <;> (try split) <;> (try split) <;> omega
    have w12 : wd ≤ 12 := Nat.le_trans hw sw
    have k12 : k ≤ 12 := Nat.le_trans hk ss
    refine ⟨_, (pss_cons (ps_expr (pe_call G_check_number (hr.mono (by decide)) (by rfl) m_check_number k_check_number b_check_number .nil pass0 (pa_cons (pv 0) (pa_cons pe_int (pa_cons (pe_glob (v := .int 12) (by rfl) T.g_WIDEST.choose_spec ⟨_, rfl⟩) pa_nil)))))
      (pss_cons (ps_expr (pe_call G_check_number (hr.mono (by decide)) (by rfl) m_check_number k_check_number b_check_number .nil pass0 (pa_cons (pv 1) (pa_cons pe_int (pa_cons (pe_glob (v := .int 12) (by rfl) T.g_WIDEST.choose_spec ⟨_, rfl⟩) pa_nil)))))
      (pss_cons (ps_expr (pe_call G_check_letters (hr.mono (by decide)) (by rfl) m_check_letters k_check_letters b_check_letters .nil pass0 (pa_cons (pv 2) pa_nil)))
      (pss_cons (ps_expr (pe_call G_check_great (hr.mono (by decide)) (by rfl) m_check_great k_check_great b_check_great .nil pass0 (pa_cons (pv 1) (pa_cons (pv 0) (pa_cons (pv 2) pa_nil)))))
      (pss_cons (ps_set (i := 3) sc_best_masks.nd rfl (Or.inr rfl) (pe_dc (own := [("mask", 5)]) (g := (gName 5)) (by rfl) sc_best_masks.nd (pi_list (pe_call G_masks_to (hr.mono (by decide)) (by rfl) m_masks_to k_masks_to b_masks_to .nil pass0 (pa_cons (pv 1) pa_nil))) (blkOk_by (own := [("mask", 5)]) (N := n_best_masks) (sc := (defScope s_best_masks)) (by decide +kernel)) (fun _ _ _ _ _ => pg_name (i := 5) sc_best_masks.nd rfl (Or.inl rfl)) (fun _ _ _ _ _ => pts_one (pt_cmpR op_eq (pe_m1 PySem.F.slot_str_count PySem.F.type_str_count mt_count (pv 5) pe_str) (pv 0) (nomark _))) (fun _ _ _ _ _ => (pv 5)) (fun _ _ _ _ _ => (pe_call G_longest (hr.mono (by decide)) (by rfl) m_longest k_longest b_longest .nil pass0 (pa_cons (pv 5) (pa_cons (pv 2) pa_nil))))))
      (pss_cons (ps_set (i := 4) sc_best_masks.nd rfl (Or.inr rfl) (pe_callBK (cr_maxVD rfl) (by rfl) T.m_max (by decide +kernel) (pa_cons (pe_valuesV (pv 3)) pa_nil) (pk_cons pe_int pk_nil)))
      (pss_one (ps_ret (pe_tup (pa_cons (pv 4) (pa_cons (pe_lock (pe_lc (own := [("mask", 5)]) (g := gName 5) (by rfl) sc_best_masks.nd (pi_keys (pv 3)) (blkOk_by (own := [("mask", 5)]) (N := n_best_masks) (sc := (defScope s_best_masks)) (by decide +kernel)) (fun _ _ _ _ _ => pg_name (i := 5) sc_best_masks.nd rfl (Or.inl rfl)) (fun _ _ _ _ _ => pts_one (pt_cmpR op_eq (pe_dget (Nat.lt_of_le_of_lt (Nat.add_le_add_left (by decide) _) hr.units) (pv 3) (pv 5) (fun _ _ => rfl)) (pv 4) (nomark _))) (fun _ _ _ _ _ => (pv 5)))) pa_nil))))))))))), ?_⟩
    refine ⟨_, rfl, (k : Int), 1, 12, rfl, by omega, by omega, fun H1 e1 => ⟨_, rfl, (wd : Int), 1, 12, rfl, by omega, by omega, fun H2 e2 => ⟨_, rfl, n, rfl, h1, h4, fun H3 e3 => ⟨_, rfl, _, rfl, _, rfl, wd, k, n, rfl, h1, h4, hw, hk, fun H4 e4 => ?_⟩⟩⟩⟩
    have e04 := ((e1.trans e2).trans e3).trans e4
    dsimp only [tSeq]
    have mz := masksTo_len w12
    refine el_dcL (K := K) (xs := tS (masksTo wd)) (fun i => hasM k ((masksTo wd).getD i [])) (fun i => ksT ((masksTo wd).getD i [])) (fun i => V.int ((tp (txt ((masksTo wd).getD i [])) n : Nat) : Int)) (el_call (ea_cons (ev_var rfl) ea_nil) fun G e Q q E => ⟨wd, rfl, w12, q⟩) (by rw [tS_len]; omega) (fun _ => rfl)
      (fun a b hab hb => masksTo_diff w12 a b hab (by rw [tS_len] at hb; exact hb)) (fun i x G e hx => ?_) (fun i x G e hx hf => ?_) (fun i x G e hx hf => ?_) _ (Ex.refl _) _ fun D H5 nD e5 hD => ?_
    · obtain ⟨hi, rfl⟩ := tS_get hx
      refine et_is (et_test (ev_op (ev_count (z := txt ((masksTo wd).getD i [])) (c := 120) (ev_var rfl) (x_eq ▸ ev_c)) (ev_var rfl) (rv_eq rfl))) ?_
      rw [txt_l]
      refine decide_eq_decide.mpr ⟨fun h => ?_, fun h => by rw [h]⟩
      injection h with h
      omega
    · obtain ⟨hi, rfl⟩ := tS_get hx
      exact ev_var rfl
    · obtain ⟨hi, rfl⟩ := tS_get hx
      have hsm := lots_small h1 h4 hw hk w12 (mem_getDL (d := []) hi) hf
      exact ev_call (ea_cons (ev_var rfl) (ea_cons (ev_var rfl) ea_nil)) fun G2 e2 Q q E => ⟨_, n, rfl, hsm, fun k' hk' => by rw [top_one hk' (tp_top hsm)]; exact q⟩
    · rw [tS_len, filt_map (masksTo wd) [] (hasM k) fun l => (ksT l, V.int ((tp (txt l) n : Nat) : Int))] at hD
      have hD : H5 D = some (.dK (kvM wd k n)) := hD
      dsimp only [gName, tSeq]
      have nD0 : H D = none := fresh_back e04 nD
      have fin : ∀ (H6 : Hp), Ex H5 H6 → tRet (tTup (tCons (tVar 4) (tCons (tLockE (tLc (iKeys (tVar 3)) (gName 5) (tTest (tOp rEq (tDGet (tVar 3) (tVar 5)) (tVar 4))) (tVar 5) [5])) tNil))) { nx := fun x H' => Q V.non H', rt := Q }
          [some (.int (k : Int)), some (.int (wd : Int)), some (.int (n : Int)), some (.ref D), some (.int ((bestM wd k n : Nat) : Int)), none] H6 := by
        intro H6 e6
        have hD6 := e6 _ _ hD
        refine ⟨_, rfl, D, .dK (kvM wd k n), hD6, trivial, fun od => ?_⟩
        obtain ⟨HF, hHF⟩ : ∃ HF, upd H6 D (.frz od (.dK (kvM wd k n))) = HF := ⟨_, rfl⟩
        have hz : HF D = some (.frz od (.dK (kvM wd k n))) := by rw [← hHF]; exact upd_same
        rw [hHF]
        refine ⟨_, rfl, D, od, rfl, .inl ⟨kvM wd k n, hz, fun L nL => ?_⟩⟩
        have LD : L ≠ D := fun z => by rw [z, hz] at nL; cases nL
        refine lc_it (te := tVar 5) (tt := tTest (tOp rEq (tDGet (tVar 3) (tVar 5)) (tVar 4))) (g := gName 5) (vs := [5]) (walk_keys (d := D) (o := od) (kvs := kvM wd k n)) (fun i H' => Ex HF H' ∧ H' L = some (.lst (tS (((lotsM wd k).take i).filter fun l => decide (tp (txt l) n = bestM wd k n))))) ⟨Ex.new nL, upd_same⟩ (fun i H' _ p => p.1 _ _ hz) (fun i x G H' hi p y => ?_) (fun H' p => ?_)
        · obtain ⟨rfl, kk, v, hkv, rfl⟩ := y
          obtain ⟨p1, p2⟩ := p
          have hkv0 := hkv
          unfold kvM at hkv
          rw [List.getElem?_map] at hkv
          cases el : (lotsM wd k)[i]? with
          | none => rw [el] at hkv; cases hkv
          | some l =>
            rw [el] at hkv
            have ee := Option.some.inj hkv
            have e1' : ksT l = kk := congrArg Prod.fst ee
            have e2' : V.int ((tp (txt l) n : Nat) : Int) = v := congrArg Prod.snd ee
            subst e1' e2'
            have tk : (lotsM wd k).take (i + 1) = (lotsM wd k).take i ++ [l] := by
              rw [List.take_succ, el]
              rfl
            have ll : (((lotsM wd k).take i).filter fun l => decide (tp (txt l) n = bestM wd k n)).length < sizeLine := by
              have z1 := List.length_filter_le (fun l => decide (tp (txt l) n = bestM wd k n)) ((lotsM wd k).take i)
              have z2 : ((lotsM wd k).take i).length ≤ (lotsM wd k).length := by rw [List.length_take]; omega
              have z3 : (lotsM wd k).length ≤ (masksTo wd).length := List.length_filter_le _ _
              rw [sizeLine_eq]
              omega
            refine ⟨rfl, ?_⟩
            refine ⟨_, rfl, _, rfl, D, _, rfl, .inl ⟨kvM wd k n, ksT l, .inr ⟨od, p1 _ _ hz⟩, rfl, (valV_at (kv_nodup w12) hkv0).symm⟩, _, rfl, rfl, _, rfl, ?_⟩
            by_cases hb : tp (txt l) n = bestM wd k n
            · refine ite2 (fun _ => ?_) (fun z => absurd (decide_eq_true (by rw [hb])) z)
              refine ⟨_, rfl, _, p2, by rw [tS_len]; exact ll, Ex.mut p1 nL, ?_⟩
              rw [upd_same, tk, List.filter_append, List.filter_cons_of_pos (p := fun l => decide (tp (txt l) n = bestM wd k n)) (by exact decide_eq_true hb)]
              unfold tS
              rw [List.map_append]
              rfl
            · refine ite2 (fun z => absurd (of_decide_eq_true z) (fun z => hb (by injection z with z; omega))) (fun _ => ?_)
              refine ⟨p1, ?_⟩
              rw [tk, List.filter_append, List.filter_cons_of_neg (p := fun l => decide (tp (txt l) n = bestM wd k n)) (by simpa using hb), List.filter_nil, List.append_nil]
              exact p2
        · obtain ⟨p1, p2⟩ := p
          have kl : (kvM wd k n).length = (lotsM wd k).length := List.length_map ..
          rw [kl, List.take_length] at p2
          refine ⟨p1 _ _ hz, by show 2 ≤ sizeLine; decide, fun t nt => ?_⟩
          have eF : Ex H HF := by rw [← hHF]; exact Ex.mut ((e04.trans e5).trans e6) nD0
          refine q t L _ ((Ex.mut (eF.trans p1) nD0).trans (Ex.new nt)) ((Ex.new nt) _ _ (by rw [upd_ne LD]; exact p2)) upd_same
      refine ⟨_, rfl, D, _, rfl, hD, fun v nv => ⟨v, D, _, (lotsM wd k).map fun l => ((tp (txt l) n : Nat) : Int), 0, rfl, rfl, upd_same, (Ex.new nv) _ _ hD, ?_, fun h0 => ?_, fun m hm hb => ?_⟩⟩
      · unfold kvM
        rw [List.map_map, List.map_map]
        rfl
      · have z : bestM wd k n = 0 := by
          unfold bestM
          rw [show (lotsM wd k) = [] from List.map_eq_nil_iff.mp h0]
          rfl
        have f := fin _ (Ex.new (o := ValV v D) nv)
        rw [z] at f
        exact f
      · have z : m = ((bestM wd k n : Nat) : Int) := by
          unfold bestM
          exact mx_is (by rw [List.map_map]; exact hm) (by rw [List.map_map]; exact hb)
        rw [z]
        exact fin _ (Ex.new (o := ValV v D) nv)
end
end K01
namespace K01
open PySem PySem.Spec PyProof.Rows L2 Evl Qt
def spCheckRowX (K : PySem.W.Frag) (CR : Addr) : Sp := fun vs H Q E => ∃ v, vs = [v] ∧ VOk K H v ∧ (isRowV v = true → RetV .non H Q) ∧ (isRowV v = false → ∀ H', Ex H H' → E (.ref CR) none H')
def ringOk : V → Bool
  | .str z => isRow z && !decide (z.length = 0)
  | _ => false
def spRingX (K : PySem.W.Frag) (CR : Addr) : Sp := fun vs H Q E => ∃ v, vs = [v] ∧ VOk K H v ∧ (ringOk v = true → RetV .non H Q) ∧ (ringOk v = false → ∀ H', Ex H H' → E (.ref CR) none H')
section
variable {P : Program} {w : World} {K : PySem.W.Frag} {mg : Str → Option Value} {base : Heap} {CM CR CV CG fG CK fK a_SMALL_WIDTH a_SMALL_SEEN : Addr}
theorem ok_check_rowX (e : Ent K mg "check_row" s_check_row p_check_row) (T : Top K mg CM CR CV CG fG CK fK a_SMALL_WIDTH a_SMALL_SEEN) (c1 : Cal P w K mg base CX0 2 "is_row" p_is_row (spIsRow K)) : Cal P w K mg base (L2.CX P w) 3 "check_row" p_check_row (spCheckRowX K CR) := by
  obtain ⟨f, fd, F, m_, b_⟩ := e
  obtain ⟨f_is_row, fd_is_row, G_is_row, m_is_row, k_is_row, b_is_row⟩ := c1
  refine ⟨f, fd, F.okX sc_check_row (fun vs H Q E h => ?_) (fun cdv A outer s H vs Q E hr h => ?_), m_, F.kp, b_⟩
  · obtain ⟨v, rfl, _⟩ := h
    rfl
  · obtain ⟨v, rfl, hv, q1, q2⟩ := h
    refine ⟨_, (pss_one (ps_if (pt_not (pt_val (pe_call G_is_row (hr.mono (by decide)) (by rfl) m_is_row k_is_row b_is_row .nil pass0 (pa_cons (pv 0) pa_nil)))) (pss_one (ps_raise rfl (takes_of rfl rfl rfl rfl) (pmk_own PySem.F.excBase_ValueError T.e_BadRow.x T.e_BadRow.g T.e_BadRow.k (raises_own T.e_BadRow.b T.e_BadRow.t) (by rfl)))) pss_nil)), ?_⟩
    exact s_when (b := !isRowV v) (et_not (et_B (ev_call (ea_cons (ev_var rfl) ea_nil) fun H1 e1 Q q E => ⟨v, rfl, hv.ex e1, q⟩))) (fun h H1 e1 => q2 (by simpa using h) H1 e1) (fun h H1 e1 => q1 (by simpa using h) H1 e1)
theorem ok_check_ringX (e : Ent K mg "check_ring" s_check_ring p_check_ring) (T : Top K mg CM CR CV CG fG CK fK a_SMALL_WIDTH a_SMALL_SEEN) (c1 : Cal P w K mg base (L2.CX P w) 3 "check_row" p_check_row (spCheckRowX K CR)) : Cal P w K mg base (L2.CX P w) 4 "check_ring" p_check_ring (spRingX K CR) := by
  obtain ⟨f, fd, F, m_, b_⟩ := e
  obtain ⟨f_check_row, fd_check_row, G_check_row, m_check_row, k_check_row, b_check_row⟩ := c1
  refine ⟨f, fd, F.okX sc_check_ring (fun vs H Q E h => ?_) (fun cdv A outer s H vs Q E hr h => ?_), m_, F.kp, b_⟩
  · obtain ⟨v, rfl, _⟩ := h
    rfl
  · obtain ⟨v, rfl, hv, q1, q2⟩ := h
    refine ⟨_, (pss_cons (ps_expr (pe_call G_check_row (hr.mono (by decide)) (by rfl) m_check_row k_check_row b_check_row .nil (passes_call (takes_of rfl rfl rfl rfl) (fun _ _ _ _ h => h)) (pa_cons (pv 0) pa_nil)))
      (pss_one (ps_if (pt_not (pt_truth (pv 0) (by intro _; rfl))) (pss_one (ps_raise rfl (takes_of rfl rfl rfl rfl) (pmk_own PySem.F.excBase_ValueError T.e_BadRow.x T.e_BadRow.g T.e_BadRow.k (raises_own T.e_BadRow.b T.e_BadRow.t) (by rfl)))) pss_nil))), ?_⟩
    refine ⟨_, rfl, v, rfl, hv, fun hr1 H1 e1 => ?_, fun hr1 H1 e1 => q2 ?_ H1 e1⟩
    · cases v with
      | str z =>
        obtain ⟨t, _, _, h3⟩ := hv
        have hz := h3 z rfl
        have hr1' : isRow z = true := hr1
        dsimp only [tSeq]
        refine s_when (b := !(!decide (z.length = 0))) (et_not (et_truthS (K := K) (ev_var rfl) (by omega))) (fun h H2 e2 => q2 ?_ H2 (e1.trans e2)) (fun h H2 e2 => q1 ?_ H2 (e1.trans e2))
        · have : z.length = 0 := by simpa using h
          show (isRow z && !decide (z.length = 0)) = false
          rw [this]
          simp
        · have : ¬ z.length = 0 := by simpa using h
          show (isRow z && !decide (z.length = 0)) = true
          rw [hr1']
          simpa using this
      | _ => exact Bool.noConfusion (show false = true from hr1)
    · cases v with
      | str z =>
        show (isRow z && _) = false
        rw [show isRow z = false from hr1]
        rfl
      | _ => rfl
end
/-- a row, then a mask: the first that is wrong is told -/
def spRM (K : PySem.W.Frag) (CR CM : Addr) (g : V → Bool) (k : Nat) : Sp := fun vs H Q E => ∃ r m rest, vs = r :: m :: rest ∧ rest.length = k ∧ VOk K H r ∧
  ((g r = false ∧ ∀ H', Ex H H' → E (.ref CR) none H') ∨ (g r = true ∧ VOk K H m ∧ isMaskV m = false ∧ ∀ H', Ex H H' → E (.ref CM) none H'))
theorem len1 {α : Type} : ∀ {l : List α}, l.length = 1 → ∃ x, l = [x]
  | [x], _ => ⟨x, rfl⟩
theorem len2 {α : Type} : ∀ {l : List α}, l.length = 2 → ∃ x y, l = [x, y]
  | [x, y], _ => ⟨x, y, rfl⟩
section
variable {P : Program} {w : World} {K : PySem.W.Frag} {mg : Str → Option Value} {base : Heap} {CM CR CV CG fG CK fK a_SMALL_WIDTH a_SMALL_SEEN : Addr}
theorem ok_viewsX (e : Ent K mg "views" s_views p_views) (T : Top K mg CM CR CV CG fG CK fK a_SMALL_WIDTH a_SMALL_SEEN) (c1 : Cal P w K mg base (L2.CX P w) 3 "check_row" p_check_row (spCheckRowX K CR)) (c2 : Cal P w K mg base (L2.CX P w) 4 "seen" p_seen (spSeen K CM)) : Cal P w K mg base (L2.CX P w) 5 "views" p_views (spRM K CR CM isRowV 0) := by
  obtain ⟨f, fd, F, m_, b_⟩ := e
  obtain ⟨f_check_row, fd_check_row, G_check_row, m_check_row, k_check_row, b_check_row⟩ := c1
  obtain ⟨f_seen, fd_seen, G_seen, m_seen, k_seen, b_seen⟩ := c2
  refine ⟨f, fd, F.okX sc_views (fun vs H Q E h => ?_) (fun cdv A outer s H vs Q E hr h => ?_), m_, F.kp, b_⟩
  · obtain ⟨r, m, rest, rfl, hk, _⟩ := h
    obtain rfl := List.eq_nil_of_length_eq_zero hk
    rfl
  · obtain ⟨r, m, rest, rfl, hk, hv, h⟩ := h
    obtain rfl := List.eq_nil_of_length_eq_zero hk
    refine ⟨_, (pss_cons (ps_expr (pe_call G_check_row (hr.mono (by decide)) (by rfl) m_check_row k_check_row b_check_row .nil (passes_call (takes_of rfl rfl rfl rfl) (fun _ _ _ _ h => h)) (pa_cons (pv 0) pa_nil)))
      (pss_cons (ps_set (i := 2) sc_views.nd rfl (Or.inr rfl) (pe_call G_seen (hr.mono (by decide)) (by rfl) m_seen k_seen b_seen .nil (passes_call (takes_of rfl rfl rfl rfl) (fun _ _ _ _ h => h)) (pa_cons (pv 1) pa_nil)))
      (pss_one ps_never))), ?_⟩
    refine ⟨_, rfl, r, rfl, hv, fun hr1 H1 e1 => ?_, fun hr1 H1 e1 => ?_⟩
    · rcases h with ⟨a, _⟩ | ⟨_, b, c, d⟩
      · rw [hr1] at a; cases a
      · exact ⟨_, rfl, m, rfl, b.ex e1, (fun x hx hm => by subst hx; rw [show isMaskV (.str x) = isMask x from rfl, hm] at c; cases c), fun _ H2 e2 => d H2 (e1.trans e2)⟩
    · rcases h with ⟨_, b⟩ | ⟨a, _⟩
      · exact b H1 e1
      · rw [hr1] at a; cases a
theorem ok_ring_viewsX (e : Ent K mg "ring_views" s_ring_views p_ring_views) (T : Top K mg CM CR CV CG fG CK fK a_SMALL_WIDTH a_SMALL_SEEN) (c1 : Cal P w K mg base (L2.CX P w) 4 "check_ring" p_check_ring (spRingX K CR)) (c2 : Cal P w K mg base (L2.CX P w) 4 "seen" p_seen (spSeen K CM)) : Cal P w K mg base (L2.CX P w) 5 "ring_views" p_ring_views (spRM K CR CM ringOk 0) := by
  obtain ⟨f, fd, F, m_, b_⟩ := e
  obtain ⟨f_check_ring, fd_check_ring, G_check_ring, m_check_ring, k_check_ring, b_check_ring⟩ := c1
  obtain ⟨f_seen, fd_seen, G_seen, m_seen, k_seen, b_seen⟩ := c2
  refine ⟨f, fd, F.okX sc_ring_views (fun vs H Q E h => ?_) (fun cdv A outer s H vs Q E hr h => ?_), m_, F.kp, b_⟩
  · obtain ⟨r, m, rest, rfl, hk, _⟩ := h
    obtain rfl := List.eq_nil_of_length_eq_zero hk
    rfl
  · obtain ⟨r, m, rest, rfl, hk, hv, h⟩ := h
    obtain rfl := List.eq_nil_of_length_eq_zero hk
    refine ⟨_, (pss_cons (ps_expr (pe_call G_check_ring (hr.mono (by decide)) (by rfl) m_check_ring k_check_ring b_check_ring .nil (passes_call (takes_of rfl rfl rfl rfl) (fun _ _ _ _ h => h)) (pa_cons (pv 0) pa_nil)))
      (pss_cons (ps_set (i := 2) sc_ring_views.nd rfl (Or.inr rfl) (pe_call G_seen (hr.mono (by decide)) (by rfl) m_seen k_seen b_seen .nil (passes_call (takes_of rfl rfl rfl rfl) (fun _ _ _ _ h => h)) (pa_cons (pv 1) pa_nil)))
      (pss_one ps_never))), ?_⟩
    refine ⟨_, rfl, r, rfl, hv, fun hr1 H1 e1 => ?_, fun hr1 H1 e1 => ?_⟩
    · rcases h with ⟨a, _⟩ | ⟨_, b, c, d⟩
      · rw [hr1] at a; cases a
      · exact ⟨_, rfl, m, rfl, b.ex e1, (fun x hx hm => by subst hx; rw [show isMaskV (.str x) = isMask x from rfl, hm] at c; cases c), fun _ H2 e2 => d H2 (e1.trans e2)⟩
    · rcases h with ⟨_, b⟩ | ⟨a, _⟩
      · exact b H1 e1
      · rw [hr1] at a; cases a
end
end K01
namespace K01
open PySem PySem.Spec PyProof.Rows L2 Evl Qt
def x1 : Str := PySem.Str.ofString "x"
theorem sm_x : SmallM x1 4 := by unfold SmallM x1; decide +kernel
def spNo : Sp := fun _ _ _ _ => False
def spMF (K : PySem.W.Frag) (CM : Addr) (k : Nat) : Sp := fun vs H _ E => ∃ m rest, vs = m :: rest ∧ rest.length = k ∧ VOk K H m ∧ isMaskV m = false ∧ ∀ H', Ex H H' → E (.ref CM) none H'
def spRF (K : PySem.W.Frag) (CR : Addr) (k : Nat) : Sp := fun vs H _ E => ∃ r rest, vs = r :: rest ∧ rest.length = k ∧ VOk K H r ∧ isRowV r = false ∧ ∀ H', Ex H H' → E (.ref CR) none H'
def spLM (K : PySem.W.Frag) (CM CR : Addr) : Sp := fun vs H _ E => ∃ r m l, vs = [r, m, l] ∧ ((VOk K H m ∧ isMaskV m = false ∧ ∀ H', Ex H H' → E (.ref CM) none H') ∨ (m = .str x1 ∧ l = .int 4 ∧ VOk K H r ∧ isRowV r = false ∧ ∀ H', Ex H H' → E (.ref CR) none H'))
def spWr (K : PySem.W.Frag) (CM CR : Addr) : Sp := fun vs H _ E => ∃ m r, vs = [m, r] ∧ ((VOk K H m ∧ isMaskV m = false ∧ ∀ H', Ex H H' → E (.ref CM) none H') ∨ (m = .str x1 ∧ VOk K H r ∧ isRowV r = false ∧ ∀ H', Ex H H' → E (.ref CR) none H'))
def spTX (K : PySem.W.Frag) (CR CM : Addr) : Sp := fun vs H _ E => ∃ x r m, vs = [.ref x, r, m] ∧ VOk K H r ∧ ((isRowV r = false ∧ ∀ H', Ex H H' → E (.ref CR) none H') ∨ (isRowV r = true ∧ VOk K H m ∧ isMaskV m = false ∧ ∀ H', Ex H H' → E (.ref CM) none H'))
theorem cm_bad {K : PySem.W.Frag} {CM : Addr} {m : V} {H : Hp} {Q : VK} {E : XK} (hv : VOk K H m) (hb : isMaskV m = false) (q : ∀ H', Ex H H' → E (.ref CM) none H') : spCheckMask K CM [m] H Q E := ⟨m, rfl, hv, (fun z => by rw [hb] at z; cases z), fun _ => q⟩
theorem cr_bad {K : PySem.W.Frag} {CR : Addr} {r : V} {H : Hp} {Q : VK} {E : XK} (hv : VOk K H r) (hb : isRowV r = false) (q : ∀ H', Ex H H' → E (.ref CR) none H') : spCheckRowX K CR [r] H Q E := ⟨r, rfl, hv, (fun z => by rw [hb] at z; cases z), fun _ => q⟩
theorem seen_bad {K : PySem.W.Frag} {CM : Addr} {m : V} {H : Hp} {Q : VK} {E : XK} (hv : VOk K H m) (hb : isMaskV m = false) (q : ∀ H', Ex H H' → E (.ref CM) none H') : spSeen K CM [m] H Q E := ⟨m, rfl, hv, (fun x hx hm => by subst hx; rw [show isMaskV (.str x) = isMask x from rfl, hm] at hb; cases hb), fun _ => q⟩
section
variable {P : Program} {w : World} {K : PySem.W.Frag} {mg : Str → Option Value} {base : Heap} {CM CR CV CG fG CK fK a_SMALL_WIDTH a_SMALL_SEEN : Addr}
theorem no_all_unlike (e : Ent K mg "all_unlike" s_all_unlike p_all_unlike) (T : Top K mg CM CR CV CG fG CK fK a_SMALL_WIDTH a_SMALL_SEEN) : Cal P w K mg base CX0 1 "all_unlike" p_all_unlike spNo := by
  obtain ⟨f, fd, F, m_, b_⟩ := e
  exact ⟨f, fd, F.ok sc_all_unlike (fun vs H Q E h => h.elim) (fun cdv A outer s H vs Q E hr h => h.elim), m_, F.kp, b_⟩
theorem no_grouped (e : Ent K mg "grouped" s_grouped p_grouped) (T : Top K mg CM CR CV CG fG CK fK a_SMALL_WIDTH a_SMALL_SEEN) : Cal P w K mg base CX0 1 "grouped" p_grouped spNo := by
  obtain ⟨f, fd, F, m_, b_⟩ := e
  exact ⟨f, fd, F.ok sc_grouped (fun vs H Q E h => h.elim) (fun cdv A outer s H vs Q E hr h => h.elim), m_, F.kp, b_⟩
theorem no_least_pair (e : Ent K mg "least_pair" s_least_pair p_least_pair) (T : Top K mg CM CR CV CG fG CK fK a_SMALL_WIDTH a_SMALL_SEEN) : Cal P w K mg base CX0 2 "least_pair" p_least_pair spNo := by
  obtain ⟨f, fd, F, m_, b_⟩ := e
  exact ⟨f, fd, F.ok sc_least_pair (fun vs H Q E h => h.elim) (fun cdv A outer s H vs Q E hr h => h.elim), m_, F.kp, b_⟩
theorem no_looks_needed (e : Ent K mg "looks_needed" s_looks_needed p_looks_needed) (T : Top K mg CM CR CV CG fG CK fK a_SMALL_WIDTH a_SMALL_SEEN) : Cal P w K mg base CX0 3 "looks_needed" p_looks_needed spNo := by
  obtain ⟨f, fd, F, m_, b_⟩ := e
  exact ⟨f, fd, F.ok sc_looks_needed (fun vs H Q E h => h.elim) (fun cdv A outer s H vs Q E hr h => h.elim), m_, F.kp, b_⟩
theorem ok_togetherX (e : Ent K mg "together" s_together p_together) (T : Top K mg CM CR CV CG fG CK fK a_SMALL_WIDTH a_SMALL_SEEN) (c1 : Cal P w K mg base (L2.CX P w) 3 "check_mask" p_check_mask (spCheckMask K CM)) : Cal P w K mg base (L2.CX P w) 6 "together" p_together (spMF K CM 2) := by
  obtain ⟨f, fd, F, m_, b_⟩ := e
  obtain ⟨f_check_mask, fd_check_mask, G_check_mask, m_check_mask, k_check_mask, b_check_mask⟩ := c1
  refine ⟨f, fd, F.okX sc_together (fun vs H Q E h => ?_) (fun cdv A outer s H vs Q E hr h => ?_), m_, F.kp, b_⟩
  · obtain ⟨m, rest, rfl, hk, _⟩ := h
    obtain ⟨a, b, rfl⟩ := len2 hk
    rfl
  · obtain ⟨m, rest, rfl, hk, hv, hb, q⟩ := h
    obtain ⟨a, b, rfl⟩ := len2 hk
    refine ⟨_, (pss_cons (ps_expr (pe_call G_check_mask (hr.mono (by decide)) (by rfl) m_check_mask k_check_mask b_check_mask .nil (passes_call (takes_of rfl rfl rfl rfl) (fun _ _ _ _ h => h)) (pa_cons (pv 0) pa_nil)))
      (pss_cons ps_never
      (pss_cons ps_never
      (pss_cons ps_never
      (pss_cons ps_never
      (pss_one ps_never)))))), ?_⟩
    exact ⟨_, rfl, cm_bad hv hb q⟩
theorem ok_check_smallX (e : Ent K mg "check_small" s_check_small p_check_small) (T : Top K mg CM CR CV CG fG CK fK a_SMALL_WIDTH a_SMALL_SEEN) (c1 : Cal P w K mg base (L2.CX P w) 3 "check_mask" p_check_mask (spCheckMask K CM)) : Cal P w K mg base (L2.CX P w) 4 "check_small" p_check_small (spMF K CM 1) := by
  obtain ⟨f, fd, F, m_, b_⟩ := e
  obtain ⟨f_check_mask, fd_check_mask, G_check_mask, m_check_mask, k_check_mask, b_check_mask⟩ := c1
  refine ⟨f, fd, F.okX sc_check_small (fun vs H Q E h => ?_) (fun cdv A outer s H vs Q E hr h => ?_), m_, F.kp, b_⟩
  · obtain ⟨m, rest, rfl, hk, _⟩ := h
    obtain ⟨a, rfl⟩ := len1 hk
    rfl
  · obtain ⟨m, rest, rfl, hk, hv, hb, q⟩ := h
    obtain ⟨a, rfl⟩ := len1 hk
    refine ⟨_, (pss_cons (ps_expr (pe_call G_check_mask (hr.mono (by decide)) (by rfl) m_check_mask k_check_mask b_check_mask .nil (passes_call (takes_of rfl rfl rfl rfl) (fun _ _ _ _ h => h)) (pa_cons (pv 0) pa_nil)))
      (pss_cons ps_never
      (pss_one ps_never))), ?_⟩
    exact ⟨_, rfl, cm_bad hv hb q⟩
theorem ok_put_in_orderX (e : Ent K mg "put_in_order" s_put_in_order p_put_in_order) (T : Top K mg CM CR CV CG fG CK fK a_SMALL_WIDTH a_SMALL_SEEN) (c1 : Cal P w K mg base (L2.CX P w) 4 "seen" p_seen (spSeen K CM)) : Cal P w K mg base (L2.CX P w) 7 "put_in_order" p_put_in_order (spMF K CM 1) := by
  obtain ⟨f, fd, F, m_, b_⟩ := e
  obtain ⟨f_seen, fd_seen, G_seen, m_seen, k_seen, b_seen⟩ := c1
  refine ⟨f, fd, F.okX sc_put_in_order (fun vs H Q E h => ?_) (fun cdv A outer s H vs Q E hr h => ?_), m_, F.kp, b_⟩
  · obtain ⟨m, rest, rfl, hk, _⟩ := h
    obtain ⟨a, rfl⟩ := len1 hk
    rfl
  · obtain ⟨m, rest, rfl, hk, hv, hb, q⟩ := h
    obtain ⟨a, rfl⟩ := len1 hk
    refine ⟨_, (pss_cons (ps_set (i := 2) sc_put_in_order.nd rfl (Or.inl rfl) (pe_call G_seen (hr.mono (by decide)) (by rfl) m_seen k_seen b_seen .nil (passes_call (takes_of rfl rfl rfl rfl) (fun _ _ _ _ h => h)) (pa_cons (pv 0) pa_nil)))
      (pss_cons ps_never
      (pss_cons ps_never
      (pss_cons ps_never
      (pss_one ps_never))))), ?_⟩
    exact ⟨_, rfl, seen_bad hv hb q⟩
theorem ok_rows_fromX (e : Ent K mg "rows_from" s_rows_from p_rows_from) (T : Top K mg CM CR CV CG fG CK fK a_SMALL_WIDTH a_SMALL_SEEN) (c1 : Cal P w K mg base (L2.CX P w) 4 "seen" p_seen (spSeen K CM)) : Cal P w K mg base (L2.CX P w) 7 "rows_from" p_rows_from (spMF K CM 1) := by
  obtain ⟨f, fd, F, m_, b_⟩ := e
  obtain ⟨f_seen, fd_seen, G_seen, m_seen, k_seen, b_seen⟩ := c1
  refine ⟨f, fd, F.okX sc_rows_from (fun vs H Q E h => ?_) (fun cdv A outer s H vs Q E hr h => ?_), m_, F.kp, b_⟩
  · obtain ⟨m, rest, rfl, hk, _⟩ := h
    obtain ⟨a, rfl⟩ := len1 hk
    rfl
  · obtain ⟨m, rest, rfl, hk, hv, hb, q⟩ := h
    obtain ⟨a, rfl⟩ := len1 hk
    refine ⟨_, (pss_cons (ps_set (i := 2) sc_rows_from.nd rfl (Or.inl rfl) (pe_call G_seen (hr.mono (by decide)) (by rfl) m_seen k_seen b_seen .nil (passes_call (takes_of rfl rfl rfl rfl) (fun _ _ _ _ h => h)) (pa_cons (pv 0) pa_nil)))
      (pss_cons ps_never
      (pss_cons ps_never
      (pss_cons ps_never
      (pss_cons ps_never
      (pss_one ps_never)))))), ?_⟩
    exact ⟨_, rfl, seen_bad hv hb q⟩
theorem ok_longest_rowsX (e : Ent K mg "longest_rows" s_longest_rows p_longest_rows) (T : Top K mg CM CR CV CG fG CK fK a_SMALL_WIDTH a_SMALL_SEEN) (c1 : Cal P w K mg base (L2.CX P w) 4 "check_small" p_check_small (spMF K CM 1)) : Cal P w K mg base (L2.CX P w) 9 "longest_rows" p_longest_rows (spMF K CM 1) := by
  obtain ⟨f, fd, F, m_, b_⟩ := e
  obtain ⟨f_check_small, fd_check_small, G_check_small, m_check_small, k_check_small, b_check_small⟩ := c1
  refine ⟨f, fd, F.okX sc_longest_rows (fun vs H Q E h => ?_) (fun cdv A outer s H vs Q E hr h => ?_), m_, F.kp, b_⟩
  · obtain ⟨m, rest, rfl, hk, _⟩ := h
    obtain ⟨a, rfl⟩ := len1 hk
    rfl
  · obtain ⟨m, rest, rfl, hk, hv, hb, q⟩ := h
    obtain ⟨a, rfl⟩ := len1 hk
    refine ⟨_, (pss_cons (ps_expr (pe_call G_check_small (hr.mono (by decide)) (by rfl) m_check_small k_check_small b_check_small .nil (passes_call (takes_of rfl rfl rfl rfl) (fun _ _ _ _ h => h)) (pa_cons (pv 0) (pa_cons (pv 1) pa_nil))))
      (pss_one ps_never)), ?_⟩
    exact ⟨_, rfl, _, rfl, m, [a], rfl, rfl, hv, hb, q⟩
theorem ok_full_ringsX (e : Ent K mg "full_rings" s_full_rings p_full_rings) (T : Top K mg CM CR CV CG fG CK fK a_SMALL_WIDTH a_SMALL_SEEN) (c1 : Cal P w K mg base (L2.CX P w) 4 "check_small" p_check_small (spMF K CM 1)) : Cal P w K mg base (L2.CX P w) 9 "full_rings" p_full_rings (spMF K CM 1) := by
  obtain ⟨f, fd, F, m_, b_⟩ := e
  obtain ⟨f_check_small, fd_check_small, G_check_small, m_check_small, k_check_small, b_check_small⟩ := c1
  refine ⟨f, fd, F.okX sc_full_rings (fun vs H Q E h => ?_) (fun cdv A outer s H vs Q E hr h => ?_), m_, F.kp, b_⟩
  · obtain ⟨m, rest, rfl, hk, _⟩ := h
    obtain ⟨a, rfl⟩ := len1 hk
    rfl
  · obtain ⟨m, rest, rfl, hk, hv, hb, q⟩ := h
    obtain ⟨a, rfl⟩ := len1 hk
    refine ⟨_, (pss_cons (ps_expr (pe_call G_check_small (hr.mono (by decide)) (by rfl) m_check_small k_check_small b_check_small .nil (passes_call (takes_of rfl rfl rfl rfl) (fun _ _ _ _ h => h)) (pa_cons (pv 0) (pa_cons (pv 1) pa_nil))))
      (pss_cons ps_never
      (pss_one ps_never))), ?_⟩
    exact ⟨_, rfl, _, rfl, m, [a], rfl, rfl, hv, hb, q⟩
theorem ok_longest_ringX (e : Ent K mg "longest_ring" s_longest_ring p_longest_ring) (T : Top K mg CM CR CV CG fG CK fK a_SMALL_WIDTH a_SMALL_SEEN) (c1 : Cal P w K mg base (L2.CX P w) 4 "check_small" p_check_small (spMF K CM 1)) : Cal P w K mg base (L2.CX P w) 9 "longest_ring" p_longest_ring (spMF K CM 1) := by
  obtain ⟨f, fd, F, m_, b_⟩ := e
  obtain ⟨f_check_small, fd_check_small, G_check_small, m_check_small, k_check_small, b_check_small⟩ := c1
  refine ⟨f, fd, F.okX sc_longest_ring (fun vs H Q E h => ?_) (fun cdv A outer s H vs Q E hr h => ?_), m_, F.kp, b_⟩
  · obtain ⟨m, rest, rfl, hk, _⟩ := h
    obtain ⟨a, rfl⟩ := len1 hk
    rfl
  · obtain ⟨m, rest, rfl, hk, hv, hb, q⟩ := h
    obtain ⟨a, rfl⟩ := len1 hk
    refine ⟨_, (pss_cons (ps_expr (pe_call G_check_small (hr.mono (by decide)) (by rfl) m_check_small k_check_small b_check_small .nil (passes_call (takes_of rfl rfl rfl rfl) (fun _ _ _ _ h => h)) (pa_cons (pv 0) (pa_cons (pv 1) pa_nil))))
      (pss_cons ps_never
      (pss_one ps_never))), ?_⟩
    exact ⟨_, rfl, _, rfl, m, [a], rfl, rfl, hv, hb, q⟩
theorem ok_count_rowsX (e : Ent K mg "count_rows" s_count_rows p_count_rows) (T : Top K mg CM CR CV CG fG CK fK a_SMALL_WIDTH a_SMALL_SEEN) (c1 : Cal P w K mg base (L2.CX P w) 4 "check_small" p_check_small (spMF K CM 1)) : Cal P w K mg base (L2.CX P w) 9 "count_rows" p_count_rows (spMF K CM 2) := by
  obtain ⟨f, fd, F, m_, b_⟩ := e
  obtain ⟨f_check_small, fd_check_small, G_check_small, m_check_small, k_check_small, b_check_small⟩ := c1
  refine ⟨f, fd, F.okX sc_count_rows (fun vs H Q E h => ?_) (fun cdv A outer s H vs Q E hr h => ?_), m_, F.kp, b_⟩
  · obtain ⟨m, rest, rfl, hk, _⟩ := h
    obtain ⟨a, b, rfl⟩ := len2 hk
    rfl
  · obtain ⟨m, rest, rfl, hk, hv, hb, q⟩ := h
    obtain ⟨a, b, rfl⟩ := len2 hk
    refine ⟨_, (pss_cons (ps_expr (pe_call G_check_small (hr.mono (by decide)) (by rfl) m_check_small k_check_small b_check_small .nil (passes_call (takes_of rfl rfl rfl rfl) (fun _ _ _ _ h => h)) (pa_cons (pv 0) (pa_cons (pv 1) pa_nil))))
      (pss_cons ps_never
      (pss_one ps_never))), ?_⟩
    exact ⟨_, rfl, _, rfl, m, [a], rfl, rfl, hv, hb, q⟩
theorem ok_longestX (e : Ent K mg "longest" s_longest p_longest) (T : Top K mg CM CR CV CG fG CK fK a_SMALL_WIDTH a_SMALL_SEEN) (c1 : Cal P w K mg base (L2.CX P w) 9 "longest_rows" p_longest_rows (spMF K CM 1)) : Cal P w K mg base (L2.CX P w) 10 "longest" p_longest (spMF K CM 1) := by
  obtain ⟨f, fd, F, m_, b_⟩ := e
  obtain ⟨f_longest_rows, fd_longest_rows, G_longest_rows, m_longest_rows, k_longest_rows, b_longest_rows⟩ := c1
  refine ⟨f, fd, F.okX sc_longest (fun vs H Q E h => ?_) (fun cdv A outer s H vs Q E hr h => ?_), m_, F.kp, b_⟩
  · obtain ⟨m, rest, rfl, hk, _⟩ := h
    obtain ⟨a, rfl⟩ := len1 hk
    rfl
  · obtain ⟨m, rest, rfl, hk, hv, hb, q⟩ := h
    obtain ⟨a, rfl⟩ := len1 hk
    refine ⟨_, (pss_one (ps_ret (pe_callB call_len_str (by rfl) T.m_len (by decide +kernel) (pa_cons (pe_ix ix_list (pe_call G_longest_rows (hr.mono (by decide)) (by rfl) m_longest_rows k_longest_rows b_longest_rows .nil (passes_call (takes_of rfl rfl rfl rfl) (fun _ _ _ _ h => h)) (pa_cons (pv 0) (pa_cons (pv 1) pa_nil))) pe_int (fun _ _ => rfl)) pa_nil)))), ?_⟩
    exact ⟨_, rfl, _, rfl, m, [a], rfl, rfl, hv, hb, q⟩
theorem ok_joinedX (e : Ent K mg "joined" s_joined p_joined) (T : Top K mg CM CR CV CG fG CK fK a_SMALL_WIDTH a_SMALL_SEEN) (c1 : Cal P w K mg base (L2.CX P w) 7 "put_in_order" p_put_in_order (spMF K CM 1)) : Cal P w K mg base (L2.CX P w) 8 "joined" p_joined (spMF K CM 1) := by
  obtain ⟨f, fd, F, m_, b_⟩ := e
  obtain ⟨f_put_in_order, fd_put_in_order, G_put_in_order, m_put_in_order, k_put_in_order, b_put_in_order⟩ := c1
  refine ⟨f, fd, F.okX sc_joined (fun vs H Q E h => ?_) (fun cdv A outer s H vs Q E hr h => ?_), m_, F.kp, b_⟩
  · obtain ⟨m, rest, rfl, hk, _⟩ := h
    obtain ⟨a, rfl⟩ := len1 hk
    rfl
  · obtain ⟨m, rest, rfl, hk, hv, hb, q⟩ := h
    obtain ⟨a, rfl⟩ := len1 hk
    refine ⟨_, (pss_cons (ps_asg (pe_call G_put_in_order (hr.mono (by decide)) (by rfl) m_put_in_order k_put_in_order b_put_in_order .nil (passes_call (takes_of rfl rfl rfl rfl) (fun _ _ _ _ h => h)) (pa_cons (pv 0) (pa_cons (pv 1) pa_nil))) (pg_tup (by rfl) (pgs_cons (pg_name (i := 2) sc_joined.nd rfl (Or.inl rfl)) (pgs_cons (pg_name (i := 3) sc_joined.nd rfl (Or.inl rfl)) pgs_nil))))
      (pss_one ps_never)), ?_⟩
    exact ⟨_, rfl, _, rfl, m, [a], rfl, rfl, hv, hb, q⟩
theorem ok_first_clashX (e : Ent K mg "first_clash" s_first_clash p_first_clash) (T : Top K mg CM CR CV CG fG CK fK a_SMALL_WIDTH a_SMALL_SEEN) (c1 : Cal P w K mg base (L2.CX P w) 7 "put_in_order" p_put_in_order (spMF K CM 1)) : Cal P w K mg base (L2.CX P w) 8 "first_clash" p_first_clash (spMF K CM 1) := by
  obtain ⟨f, fd, F, m_, b_⟩ := e
  obtain ⟨f_put_in_order, fd_put_in_order, G_put_in_order, m_put_in_order, k_put_in_order, b_put_in_order⟩ := c1
  refine ⟨f, fd, F.okX sc_first_clash (fun vs H Q E h => ?_) (fun cdv A outer s H vs Q E hr h => ?_), m_, F.kp, b_⟩
  · obtain ⟨m, rest, rfl, hk, _⟩ := h
    obtain ⟨a, rfl⟩ := len1 hk
    rfl
  · obtain ⟨m, rest, rfl, hk, hv, hb, q⟩ := h
    obtain ⟨a, rfl⟩ := len1 hk
    refine ⟨_, (pss_cons (ps_asg (pe_call G_put_in_order (hr.mono (by decide)) (by rfl) m_put_in_order k_put_in_order b_put_in_order .nil (passes_call (takes_of rfl rfl rfl rfl) (fun _ _ _ _ h => h)) (pa_cons (pv 0) (pa_cons (pv 1) pa_nil))) (pg_tup (by rfl) (pgs_cons (pg_name (i := 2) sc_first_clash.nd rfl (Or.inl rfl)) (pgs_cons (pg_name (i := 3) sc_first_clash.nd rfl (Or.inl rfl)) pgs_nil))))
      (pss_one ps_never)), ?_⟩
    exact ⟨_, rfl, _, rfl, m, [a], rfl, rfl, hv, hb, q⟩
theorem ok_sure_fromX (e : Ent K mg "sure_from" s_sure_from p_sure_from) (T : Top K mg CM CR CV CG fG CK fK a_SMALL_WIDTH a_SMALL_SEEN) (c1 : Cal P w K mg base (L2.CX P w) 7 "rows_from" p_rows_from (spMF K CM 1)) : Cal P w K mg base (L2.CX P w) 8 "sure_from" p_sure_from (spMF K CM 1) := by
  obtain ⟨f, fd, F, m_, b_⟩ := e
  obtain ⟨f_rows_from, fd_rows_from, G_rows_from, m_rows_from, k_rows_from, b_rows_from⟩ := c1
  refine ⟨f, fd, F.okX sc_sure_from (fun vs H Q E h => ?_) (fun cdv A outer s H vs Q E hr h => ?_), m_, F.kp, b_⟩
  · obtain ⟨m, rest, rfl, hk, _⟩ := h
    obtain ⟨a, rfl⟩ := len1 hk
    rfl
  · obtain ⟨m, rest, rfl, hk, hv, hb, q⟩ := h
    obtain ⟨a, rfl⟩ := len1 hk
    refine ⟨_, (pss_cons (ps_set (i := 2) sc_sure_from.nd rfl (Or.inl rfl) (pe_call G_rows_from (hr.mono (by decide)) (by rfl) m_rows_from k_rows_from b_rows_from .nil (passes_call (takes_of rfl rfl rfl rfl) (fun _ _ _ _ h => h)) (pa_cons (pv 0) (pa_cons (pv 1) pa_nil))))
      (pss_one ps_never)), ?_⟩
    exact ⟨_, rfl, _, rfl, m, [a], rfl, rfl, hv, hb, q⟩
theorem ok_tellsX (e : Ent K mg "tells" s_tells p_tells) (T : Top K mg CM CR CV CG fG CK fK a_SMALL_WIDTH a_SMALL_SEEN) (c1 : Cal P w K mg base (L2.CX P w) 5 "views" p_views (spRM K CR CM isRowV 0)) (c2 : Cal P w K mg base CX0 1 "all_unlike" p_all_unlike spNo) : Cal P w K mg base (L2.CX P w) 6 "tells" p_tells (spRM K CR CM isRowV 0) := by
  obtain ⟨f, fd, F, m_, b_⟩ := e
  obtain ⟨f_views, fd_views, G_views, m_views, k_views, b_views⟩ := c1
  obtain ⟨f_all_unlike, fd_all_unlike, G_all_unlike, m_all_unlike, k_all_unlike, b_all_unlike⟩ := c2
  refine ⟨f, fd, F.okX sc_tells (fun vs H Q E h => ?_) (fun cdv A outer s H vs Q E hr h => ?_), m_, F.kp, b_⟩
  · obtain ⟨r, m, rest, rfl, hk, _⟩ := h
    obtain rfl := List.eq_nil_of_length_eq_zero hk
    rfl
  · obtain ⟨r, m, rest, rfl, hk, hv, h⟩ := h
    obtain rfl := List.eq_nil_of_length_eq_zero hk
    refine ⟨_, (pss_one (ps_ret (pe_call G_all_unlike (hr.mono (by decide)) (by rfl) m_all_unlike k_all_unlike b_all_unlike .nil pass0 (pa_cons (pe_call G_views (hr.mono (by decide)) (by rfl) m_views k_views b_views .nil (passes_call (takes_of rfl rfl rfl rfl) (fun _ _ _ _ h => h)) (pa_cons (pv 0) (pa_cons (pv 1) pa_nil))) pa_nil)))), ?_⟩
    exact ⟨_, rfl, _, rfl, r, m, [], rfl, rfl, hv, h⟩
theorem ok_groupsX (e : Ent K mg "groups" s_groups p_groups) (T : Top K mg CM CR CV CG fG CK fK a_SMALL_WIDTH a_SMALL_SEEN) (c1 : Cal P w K mg base (L2.CX P w) 5 "views" p_views (spRM K CR CM isRowV 0)) (c2 : Cal P w K mg base CX0 1 "grouped" p_grouped spNo) : Cal P w K mg base (L2.CX P w) 6 "groups" p_groups (spRM K CR CM isRowV 0) := by
  obtain ⟨f, fd, F, m_, b_⟩ := e
  obtain ⟨f_views, fd_views, G_views, m_views, k_views, b_views⟩ := c1
  obtain ⟨f_grouped, fd_grouped, G_grouped, m_grouped, k_grouped, b_grouped⟩ := c2
  refine ⟨f, fd, F.okX sc_groups (fun vs H Q E h => ?_) (fun cdv A outer s H vs Q E hr h => ?_), m_, F.kp, b_⟩
  · obtain ⟨r, m, rest, rfl, hk, _⟩ := h
    obtain rfl := List.eq_nil_of_length_eq_zero hk
    rfl
  · obtain ⟨r, m, rest, rfl, hk, hv, h⟩ := h
    obtain rfl := List.eq_nil_of_length_eq_zero hk
    refine ⟨_, (pss_one (ps_ret (pe_call G_grouped (hr.mono (by decide)) (by rfl) m_grouped k_grouped b_grouped .nil pass0 (pa_cons (pe_listEnum rfl (by rfl) T.m_list (by rfl) T.m_enumerate (pe_call G_views (hr.mono (by decide)) (by rfl) m_views k_views b_views .nil (passes_call (takes_of rfl rfl rfl rfl) (fun _ _ _ _ h => h)) (pa_cons (pv 0) (pa_cons (pv 1) pa_nil)))) pa_nil)))), ?_⟩
    exact ⟨_, rfl, _, rfl, r, m, [], rfl, rfl, hv, h⟩
theorem ok_alikeX (e : Ent K mg "alike" s_alike p_alike) (T : Top K mg CM CR CV CG fG CK fK a_SMALL_WIDTH a_SMALL_SEEN) (c1 : Cal P w K mg base (L2.CX P w) 5 "views" p_views (spRM K CR CM isRowV 0)) (c2 : Cal P w K mg base CX0 2 "least_pair" p_least_pair spNo) : Cal P w K mg base (L2.CX P w) 6 "alike" p_alike (spRM K CR CM isRowV 0) := by
  obtain ⟨f, fd, F, m_, b_⟩ := e
  obtain ⟨f_views, fd_views, G_views, m_views, k_views, b_views⟩ := c1
  obtain ⟨f_least_pair, fd_least_pair, G_least_pair, m_least_pair, k_least_pair, b_least_pair⟩ := c2
  refine ⟨f, fd, F.okX sc_alike (fun vs H Q E h => ?_) (fun cdv A outer s H vs Q E hr h => ?_), m_, F.kp, b_⟩
  · obtain ⟨r, m, rest, rfl, hk, _⟩ := h
    obtain rfl := List.eq_nil_of_length_eq_zero hk
    rfl
  · obtain ⟨r, m, rest, rfl, hk, hv, h⟩ := h
    obtain rfl := List.eq_nil_of_length_eq_zero hk
    refine ⟨_, (pss_one (ps_ret (pe_call G_least_pair (hr.mono (by decide)) (by rfl) m_least_pair k_least_pair b_least_pair .nil pass0 (pa_cons (pe_listEnum rfl (by rfl) T.m_list (by rfl) T.m_enumerate (pe_call G_views (hr.mono (by decide)) (by rfl) m_views k_views b_views .nil (passes_call (takes_of rfl rfl rfl rfl) (fun _ _ _ _ h => h)) (pa_cons (pv 0) (pa_cons (pv 1) pa_nil)))) pa_nil)))), ?_⟩
    exact ⟨_, rfl, _, rfl, r, m, [], rfl, rfl, hv, h⟩
theorem ok_steps_neededX (e : Ent K mg "steps_needed" s_steps_needed p_steps_needed) (T : Top K mg CM CR CV CG fG CK fK a_SMALL_WIDTH a_SMALL_SEEN) (c1 : Cal P w K mg base (L2.CX P w) 5 "views" p_views (spRM K CR CM isRowV 0)) (c2 : Cal P w K mg base CX0 3 "looks_needed" p_looks_needed spNo) : Cal P w K mg base (L2.CX P w) 6 "steps_needed" p_steps_needed (spRM K CR CM isRowV 0) := by
  obtain ⟨f, fd, F, m_, b_⟩ := e
  obtain ⟨f_views, fd_views, G_views, m_views, k_views, b_views⟩ := c1
  obtain ⟨f_looks_needed, fd_looks_needed, G_looks_needed, m_looks_needed, k_looks_needed, b_looks_needed⟩ := c2
  refine ⟨f, fd, F.okX sc_steps_needed (fun vs H Q E h => ?_) (fun cdv A outer s H vs Q E hr h => ?_), m_, F.kp, b_⟩
  · obtain ⟨r, m, rest, rfl, hk, _⟩ := h
    obtain rfl := List.eq_nil_of_length_eq_zero hk
    rfl
  · obtain ⟨r, m, rest, rfl, hk, hv, h⟩ := h
    obtain rfl := List.eq_nil_of_length_eq_zero hk
    refine ⟨_, (pss_one (ps_ret (pe_call G_looks_needed (hr.mono (by decide)) (by rfl) m_looks_needed k_looks_needed b_looks_needed .nil pass0 (pa_cons (pe_call G_views (hr.mono (by decide)) (by rfl) m_views k_views b_views .nil (passes_call (takes_of rfl rfl rfl rfl) (fun _ _ _ _ h => h)) (pa_cons (pv 0) (pa_cons (pv 1) pa_nil))) (pa_cons pe_int pa_nil))))), ?_⟩
    exact ⟨_, rfl, _, rfl, r, m, [], rfl, rfl, hv, h⟩
theorem ok_distanceX (e : Ent K mg "distance" s_distance p_distance) (T : Top K mg CM CR CV CG fG CK fK a_SMALL_WIDTH a_SMALL_SEEN) (c1 : Cal P w K mg base (L2.CX P w) 5 "views" p_views (spRM K CR CM isRowV 0)) : Cal P w K mg base (L2.CX P w) 6 "distance" p_distance (spRM K CR CM isRowV 0) := by
  obtain ⟨f, fd, F, m_, b_⟩ := e
  obtain ⟨f_views, fd_views, G_views, m_views, k_views, b_views⟩ := c1
  refine ⟨f, fd, F.okX sc_distance (fun vs H Q E h => ?_) (fun cdv A outer s H vs Q E hr h => ?_), m_, F.kp, b_⟩
  · obtain ⟨r, m, rest, rfl, hk, _⟩ := h
    obtain rfl := List.eq_nil_of_length_eq_zero hk
    rfl
  · obtain ⟨r, m, rest, rfl, hk, hv, h⟩ := h
    obtain rfl := List.eq_nil_of_length_eq_zero hk
    refine ⟨_, (pss_cons (ps_set (i := 2) sc_distance.nd rfl (Or.inr rfl) (pe_call G_views (hr.mono (by decide)) (by rfl) m_views k_views b_views .nil (passes_call (takes_of rfl rfl rfl rfl) (fun _ _ _ _ h => h)) (pa_cons (pv 0) (pa_cons (pv 1) pa_nil))))
      (pss_cons ps_never
      (pss_one ps_never))), ?_⟩
    exact ⟨_, rfl, _, rfl, r, m, [], rfl, rfl, hv, h⟩
theorem ok_ring_tellsX (e : Ent K mg "ring_tells" s_ring_tells p_ring_tells) (T : Top K mg CM CR CV CG fG CK fK a_SMALL_WIDTH a_SMALL_SEEN) (c1 : Cal P w K mg base (L2.CX P w) 5 "ring_views" p_ring_views (spRM K CR CM ringOk 0)) (c2 : Cal P w K mg base CX0 1 "all_unlike" p_all_unlike spNo) : Cal P w K mg base (L2.CX P w) 6 "ring_tells" p_ring_tells (spRM K CR CM ringOk 0) := by
  obtain ⟨f, fd, F, m_, b_⟩ := e
  obtain ⟨f_ring_views, fd_ring_views, G_ring_views, m_ring_views, k_ring_views, b_ring_views⟩ := c1
  obtain ⟨f_all_unlike, fd_all_unlike, G_all_unlike, m_all_unlike, k_all_unlike, b_all_unlike⟩ := c2
  refine ⟨f, fd, F.okX sc_ring_tells (fun vs H Q E h => ?_) (fun cdv A outer s H vs Q E hr h => ?_), m_, F.kp, b_⟩
  · obtain ⟨r, m, rest, rfl, hk, _⟩ := h
    obtain rfl := List.eq_nil_of_length_eq_zero hk
    rfl
  · obtain ⟨r, m, rest, rfl, hk, hv, h⟩ := h
    obtain rfl := List.eq_nil_of_length_eq_zero hk
    refine ⟨_, (pss_one (ps_ret (pe_call G_all_unlike (hr.mono (by decide)) (by rfl) m_all_unlike k_all_unlike b_all_unlike .nil pass0 (pa_cons (pe_call G_ring_views (hr.mono (by decide)) (by rfl) m_ring_views k_ring_views b_ring_views .nil (passes_call (takes_of rfl rfl rfl rfl) (fun _ _ _ _ h => h)) (pa_cons (pv 0) (pa_cons (pv 1) pa_nil))) pa_nil)))), ?_⟩
    exact ⟨_, rfl, _, rfl, r, m, [], rfl, rfl, hv, h⟩
theorem ok_nearX (e : Ent K mg "near" s_near p_near) (T : Top K mg CM CR CV CG fG CK fK a_SMALL_WIDTH a_SMALL_SEEN) (c1 : Cal P w K mg base (L2.CX P w) 5 "views" p_views (spRM K CR CM isRowV 0)) : Cal P w K mg base (L2.CX P w) 6 "near" p_near (spRM K CR CM isRowV 2) := by
  obtain ⟨f, fd, F, m_, b_⟩ := e
  obtain ⟨f_views, fd_views, G_views, m_views, k_views, b_views⟩ := c1
  refine ⟨f, fd, F.okX sc_near (fun vs H Q E h => ?_) (fun cdv A outer s H vs Q E hr h => ?_), m_, F.kp, b_⟩
  · obtain ⟨r, m, rest, rfl, hk, _⟩ := h
    obtain ⟨a, b, rfl⟩ := len2 hk
    rfl
  · obtain ⟨r, m, rest, rfl, hk, hv, h⟩ := h
    obtain ⟨a, b, rfl⟩ := len2 hk
    refine ⟨_, (pss_cons (ps_set (i := 4) sc_near.nd rfl (Or.inl rfl) (pe_call G_views (hr.mono (by decide)) (by rfl) m_views k_views b_views .nil (passes_call (takes_of rfl rfl rfl rfl) (fun _ _ _ _ h => h)) (pa_cons (pv 0) (pa_cons (pv 1) pa_nil))))
      (pss_cons ps_never
      (pss_cons ps_never
      (pss_one ps_never)))), ?_⟩
    exact ⟨_, rfl, _, rfl, r, m, [], rfl, rfl, hv, h⟩
theorem ok_findX (e : Ent K mg "find" s_find p_find) (T : Top K mg CM CR CV CG fG CK fK a_SMALL_WIDTH a_SMALL_SEEN) (c1 : Cal P w K mg base (L2.CX P w) 6 "near" p_near (spRM K CR CM isRowV 2)) : Cal P w K mg base (L2.CX P w) 7 "find" p_find (spRM K CR CM isRowV 1) := by
  obtain ⟨f, fd, F, m_, b_⟩ := e
  obtain ⟨f_near, fd_near, G_near, m_near, k_near, b_near⟩ := c1
  refine ⟨f, fd, F.okX sc_find (fun vs H Q E h => ?_) (fun cdv A outer s H vs Q E hr h => ?_), m_, F.kp, b_⟩
  · obtain ⟨r, m, rest, rfl, hk, _⟩ := h
    obtain ⟨a, rfl⟩ := len1 hk
    rfl
  · obtain ⟨r, m, rest, rfl, hk, hv, h⟩ := h
    obtain ⟨a, rfl⟩ := len1 hk
    refine ⟨_, (pss_one (ps_ret (pe_call G_near (hr.mono (by decide)) (by rfl) m_near k_near b_near .nil (passes_call (takes_of rfl rfl rfl rfl) (fun _ _ _ _ h => h)) (pa_cons (pv 0) (pa_cons (pv 1) (pa_cons (pv 2) (pa_cons pe_int pa_nil))))))), ?_⟩
    exact ⟨_, rfl, _, rfl, _, rfl, r, m, [a, .int 0], rfl, rfl, hv, h⟩
theorem ok_standsX (e : Ent K mg "stands" s_stands p_stands) (T : Top K mg CM CR CV CG fG CK fK a_SMALL_WIDTH a_SMALL_SEEN) (c1 : Cal P w K mg base (L2.CX P w) 6 "distance" p_distance (spRM K CR CM isRowV 0)) : Cal P w K mg base (L2.CX P w) 7 "stands" p_stands (spRM K CR CM isRowV 2) := by
  obtain ⟨f, fd, F, m_, b_⟩ := e
  obtain ⟨f_distance, fd_distance, G_distance, m_distance, k_distance, b_distance⟩ := c1
  refine ⟨f, fd, F.okX sc_stands (fun vs H Q E h => ?_) (fun cdv A outer s H vs Q E hr h => ?_), m_, F.kp, b_⟩
  · obtain ⟨r, m, rest, rfl, hk, _⟩ := h
    obtain ⟨a, b, rfl⟩ := len2 hk
    rfl
  · obtain ⟨r, m, rest, rfl, hk, hv, h⟩ := h
    obtain ⟨a, b, rfl⟩ := len2 hk
    refine ⟨_, (pss_cons (ps_set (i := 4) sc_stands.nd rfl (Or.inl rfl) (pe_call G_distance (hr.mono (by decide)) (by rfl) m_distance k_distance b_distance .nil (passes_call (takes_of rfl rfl rfl rfl) (fun _ _ _ _ h => h)) (pa_cons (pv 0) (pa_cons (pv 1) pa_nil))))
      (pss_cons ps_never
      (pss_cons ps_never
      (pss_one ps_never)))), ?_⟩
    exact ⟨_, rfl, _, rfl, r, m, [], rfl, rfl, hv, h⟩
theorem ok_check_row_inX (e : Ent K mg "check_row_in" s_check_row_in p_check_row_in) (T : Top K mg CM CR CV CG fG CK fK a_SMALL_WIDTH a_SMALL_SEEN) (c1 : Cal P w K mg base (L2.CX P w) 3 "check_row" p_check_row (spCheckRowX K CR)) : Cal P w K mg base (L2.CX P w) 4 "check_row_in" p_check_row_in (spRF K CR 1) := by
  obtain ⟨f, fd, F, m_, b_⟩ := e
  obtain ⟨f_check_row, fd_check_row, G_check_row, m_check_row, k_check_row, b_check_row⟩ := c1
  refine ⟨f, fd, F.okX sc_check_row_in (fun vs H Q E h => ?_) (fun cdv A outer s H vs Q E hr h => ?_), m_, F.kp, b_⟩
  · obtain ⟨r, rest, rfl, hk, _⟩ := h
    obtain ⟨a, rfl⟩ := len1 hk
    rfl
  · obtain ⟨r, rest, rfl, hk, hv, hb, q⟩ := h
    obtain ⟨a, rfl⟩ := len1 hk
    refine ⟨_, (pss_cons (ps_expr (pe_call G_check_row (hr.mono (by decide)) (by rfl) m_check_row k_check_row b_check_row .nil (passes_call (takes_of rfl rfl rfl rfl) (fun _ _ _ _ h => h)) (pa_cons (pv 0) pa_nil)))
      (pss_one ps_never)), ?_⟩
    exact ⟨_, rfl, cr_bad hv hb q⟩
theorem ok_least_masksX (e : Ent K mg "least_masks" s_least_masks p_least_masks) (T : Top K mg CM CR CV CG fG CK fK a_SMALL_WIDTH a_SMALL_SEEN) (c1 : Cal P w K mg base (L2.CX P w) 3 "check_row" p_check_row (spCheckRowX K CR)) : Cal P w K mg base (L2.CX P w) 7 "least_masks" p_least_masks (spRF K CR 1) := by
  obtain ⟨f, fd, F, m_, b_⟩ := e
  obtain ⟨f_check_row, fd_check_row, G_check_row, m_check_row, k_check_row, b_check_row⟩ := c1
  refine ⟨f, fd, F.okX sc_least_masks (fun vs H Q E h => ?_) (fun cdv A outer s H vs Q E hr h => ?_), m_, F.kp, b_⟩
  · obtain ⟨r, rest, rfl, hk, _⟩ := h
    obtain ⟨a, rfl⟩ := len1 hk
    rfl
  · obtain ⟨r, rest, rfl, hk, hv, hb, q⟩ := h
    obtain ⟨a, rfl⟩ := len1 hk
    refine ⟨_, (pss_cons (ps_expr (pe_call G_check_row (hr.mono (by decide)) (by rfl) m_check_row k_check_row b_check_row .nil (passes_call (takes_of rfl rfl rfl rfl) (fun _ _ _ _ h => h)) (pa_cons (pv 0) pa_nil)))
      (pss_cons ps_never
      (pss_cons ps_never
      (pss_cons ps_never
      (pss_one ps_never))))), ?_⟩
    exact ⟨_, rfl, cr_bad hv hb q⟩
theorem ok_check_letteredX (e : Ent K mg "check_lettered" s_check_lettered p_check_lettered) (T : Top K mg CM CR CV CG fG CK fK a_SMALL_WIDTH a_SMALL_SEEN) (c1 : Cal P w K mg base (L2.CX P w) 3 "check_mask" p_check_mask (spCheckMask K CM)) (c2 : Cal P w K mg base CX0 2 "check_letters" p_check_letters spLetters) (c3 : Cal P w K mg base (L2.CX P w) 4 "check_row_in" p_check_row_in (spRF K CR 1)) : Cal P w K mg base (L2.CX P w) 5 "check_lettered" p_check_lettered (spLM K CM CR) := by
  obtain ⟨f, fd, F, m_, b_⟩ := e
  obtain ⟨f_check_mask, fd_check_mask, G_check_mask, m_check_mask, k_check_mask, b_check_mask⟩ := c1
  obtain ⟨f_check_letters, fd_check_letters, G_check_letters, m_check_letters, k_check_letters, b_check_letters⟩ := c2
  obtain ⟨f_check_row_in, fd_check_row_in, G_check_row_in, m_check_row_in, k_check_row_in, b_check_row_in⟩ := c3
  refine ⟨f, fd, F.okX sc_check_lettered (fun vs H Q E h => ?_) (fun cdv A outer s H vs Q E hr h => ?_), m_, F.kp, b_⟩
  · obtain ⟨r, m, l, rfl, _⟩ := h
    rfl
  · obtain ⟨r, m, l, rfl, h⟩ := h
    refine ⟨_, (pss_cons (ps_expr (pe_call G_check_mask (hr.mono (by decide)) (by rfl) m_check_mask k_check_mask b_check_mask .nil (passes_call (takes_of rfl rfl rfl rfl) (fun _ _ _ _ h => h)) (pa_cons (pv 1) pa_nil)))
      (pss_cons (ps_expr (pe_call G_check_letters (hr.mono (by decide)) (by rfl) m_check_letters k_check_letters b_check_letters .nil pass0 (pa_cons (pv 2) pa_nil)))
      (pss_one (ps_expr (pe_call G_check_row_in (hr.mono (by decide)) (by rfl) m_check_row_in k_check_row_in b_check_row_in .nil (passes_call (takes_of rfl rfl rfl rfl) (fun _ _ _ _ h => h)) (pa_cons (pv 0) (pa_cons (pv 2) pa_nil))))))), ?_⟩
    rcases h with ⟨hv, hb, q⟩ | ⟨rfl, rfl, hv, hb, q⟩
    · exact ⟨_, rfl, cm_bad hv hb q⟩
    · refine ⟨_, rfl, .str x1, rfl, .str (by decide +kernel), fun _ H1 e1 => ?_, fun z => absurd z (by decide +kernel)⟩
      dsimp only [tSeq]
      refine ⟨_, rfl, 4, rfl, by omega, by omega, fun H2 e2 => ?_⟩
      exact ⟨_, rfl, _, rfl, r, [.int 4], rfl, rfl, hv.ex (e1.trans e2), hb, fun H' e' => q H' ((e1.trans e2).trans e')⟩
theorem ok_next_lettersX (e : Ent K mg "next_letters" s_next_letters p_next_letters) (T : Top K mg CM CR CV CG fG CK fK a_SMALL_WIDTH a_SMALL_SEEN) (c1 : Cal P w K mg base (L2.CX P w) 5 "check_lettered" p_check_lettered (spLM K CM CR)) : Cal P w K mg base (L2.CX P w) 7 "next_letters" p_next_letters (spLM K CM CR) := by
  obtain ⟨f, fd, F, m_, b_⟩ := e
  obtain ⟨f_check_lettered, fd_check_lettered, G_check_lettered, m_check_lettered, k_check_lettered, b_check_lettered⟩ := c1
  refine ⟨f, fd, F.okX sc_next_letters (fun vs H Q E h => ?_) (fun cdv A outer s H vs Q E hr h => ?_), m_, F.kp, b_⟩
  · obtain ⟨r, m, l, rfl, _⟩ := h
    rfl
  · obtain ⟨r, m, l, rfl, h⟩ := h
    refine ⟨_, (pss_cons (ps_expr (pe_call G_check_lettered (hr.mono (by decide)) (by rfl) m_check_lettered k_check_lettered b_check_lettered .nil (passes_call (takes_of rfl rfl rfl rfl) (fun _ _ _ _ h => h)) (pa_cons (pv 0) (pa_cons (pv 1) (pa_cons (pv 2) pa_nil)))))
      (pss_cons ps_never
      (pss_cons ps_never
      (pss_cons ps_never
      (pss_cons ps_never
      (pss_cons ps_never
      (pss_cons ps_never
      (pss_one ps_never)))))))), ?_⟩
    exact ⟨_, rfl, _, rfl, _, rfl, r, m, l, rfl, h⟩
theorem ok_mendX (e : Ent K mg "mend" s_mend p_mend) (T : Top K mg CM CR CV CG fG CK fK a_SMALL_WIDTH a_SMALL_SEEN) (c1 : Cal P w K mg base (L2.CX P w) 5 "check_lettered" p_check_lettered (spLM K CM CR)) : Cal P w K mg base (L2.CX P w) 8 "mend" p_mend (spLM K CM CR) := by
  obtain ⟨f, fd, F, m_, b_⟩ := e
  obtain ⟨f_check_lettered, fd_check_lettered, G_check_lettered, m_check_lettered, k_check_lettered, b_check_lettered⟩ := c1
  refine ⟨f, fd, F.okX sc_mend (fun vs H Q E h => ?_) (fun cdv A outer s H vs Q E hr h => ?_), m_, F.kp, b_⟩
  · obtain ⟨r, m, l, rfl, _⟩ := h
    rfl
  · obtain ⟨r, m, l, rfl, h⟩ := h
    refine ⟨_, (pss_cons (ps_expr (pe_call G_check_lettered (hr.mono (by decide)) (by rfl) m_check_lettered k_check_lettered b_check_lettered .nil (passes_call (takes_of rfl rfl rfl rfl) (fun _ _ _ _ h => h)) (pa_cons (pv 0) (pa_cons (pv 1) (pa_cons (pv 2) pa_nil)))))
      (pss_cons ps_never
      (pss_cons ps_never
      (pss_one ps_never)))), ?_⟩
    exact ⟨_, rfl, _, rfl, _, rfl, r, m, l, rfl, h⟩
theorem ok_weak_lettersX (e : Ent K mg "weak_letters" s_weak_letters p_weak_letters) (T : Top K mg CM CR CV CG fG CK fK a_SMALL_WIDTH a_SMALL_SEEN) (c1 : Cal P w K mg base (L2.CX P w) 5 "check_lettered" p_check_lettered (spLM K CM CR)) : Cal P w K mg base (L2.CX P w) 7 "weak_letters" p_weak_letters (spLM K CM CR) := by
  obtain ⟨f, fd, F, m_, b_⟩ := e
  obtain ⟨f_check_lettered, fd_check_lettered, G_check_lettered, m_check_lettered, k_check_lettered, b_check_lettered⟩ := c1
  refine ⟨f, fd, F.okX sc_weak_letters (fun vs H Q E h => ?_) (fun cdv A outer s H vs Q E hr h => ?_), m_, F.kp, b_⟩
  · obtain ⟨r, m, l, rfl, _⟩ := h
    rfl
  · obtain ⟨r, m, l, rfl, h⟩ := h
    refine ⟨_, (pss_cons (ps_expr (pe_call G_check_lettered (hr.mono (by decide)) (by rfl) m_check_lettered k_check_lettered b_check_lettered .nil (passes_call (takes_of rfl rfl rfl rfl) (fun _ _ _ _ h => h)) (pa_cons (pv 0) (pa_cons (pv 1) (pa_cons (pv 2) pa_nil)))))
      (pss_one ps_never)), ?_⟩
    exact ⟨_, rfl, _, rfl, _, rfl, r, m, l, rfl, h⟩
theorem ok_farthestX (e : Ent K mg "farthest" s_farthest p_farthest) (T : Top K mg CM CR CV CG fG CK fK a_SMALL_WIDTH a_SMALL_SEEN) (c1 : Cal P w K mg base (L2.CX P w) 4 "check_small" p_check_small (spMF K CM 1)) (c2 : Cal P w K mg base (L2.CX P w) 4 "check_small" p_check_small spSmall) (c3 : Cal P w K mg base (L2.CX P w) 4 "check_row_in" p_check_row_in (spRF K CR 1)) : Cal P w K mg base (L2.CX P w) 9 "farthest" p_farthest (spLM K CM CR) := by
  obtain ⟨f, fd, F, m_, b_⟩ := e
  obtain ⟨f_check_row_in, fd_check_row_in, G_check_row_in, m_check_row_in, k_check_row_in, b_check_row_in⟩ := c3
  refine ⟨f, fd, F.okX sc_farthest (fun vs H Q E h => ?_) (fun cdv A outer s H vs Q E hr h => ?_), m_, F.kp, b_⟩
  · obtain ⟨r, m, l, rfl, _⟩ := h
    rfl
  · obtain ⟨r, m, l, rfl, h⟩ := h
    rcases h with ⟨hv, hb, q⟩ | ⟨rfl, rfl, hv, hb, q⟩
    · obtain ⟨f_check_small, fd_check_small, G_check_small, m_check_small, k_check_small, b_check_small⟩ := c1
      refine ⟨_, (pss_cons (ps_expr (pe_call G_check_small (hr.mono (by decide)) (by rfl) m_check_small k_check_small b_check_small .nil (passes_call (takes_of rfl rfl rfl rfl) (fun _ _ _ _ h => h)) (pa_cons (pv 1) (pa_cons (pv 2) pa_nil))))
      (pss_cons (ps_expr (pe_call G_check_row_in (hr.mono (by decide)) (by rfl) m_check_row_in k_check_row_in b_check_row_in .nil (passes_call (takes_of rfl rfl rfl rfl) (fun _ _ _ _ h => h)) (pa_cons (pv 0) (pa_cons (pv 2) pa_nil))))
      (pss_cons ps_never
      (pss_one ps_never)))), ?_⟩
      exact ⟨_, rfl, _, rfl, m, [l], rfl, rfl, hv, hb, q⟩
    · obtain ⟨f_check_small, fd_check_small, G_check_small, m_check_small, k_check_small, b_check_small⟩ := c2
      refine ⟨_, (pss_cons (ps_expr (pe_call G_check_small (hr.mono (by decide)) (by rfl) m_check_small k_check_small b_check_small .nil (passes_call (takes_of rfl rfl rfl rfl) (fun _ _ _ _ h => h)) (pa_cons (pv 1) (pa_cons (pv 2) pa_nil))))
      (pss_cons (ps_expr (pe_call G_check_row_in (hr.mono (by decide)) (by rfl) m_check_row_in k_check_row_in b_check_row_in .nil (passes_call (takes_of rfl rfl rfl rfl) (fun _ _ _ _ h => h)) (pa_cons (pv 0) (pa_cons (pv 2) pa_nil))))
      (pss_cons ps_never
      (pss_one ps_never)))), ?_⟩
      refine ⟨_, rfl, _, rfl, x1, 4, rfl, sm_x, fun H1 e1 => ?_⟩
      dsimp only [tSeq]
      exact ⟨_, rfl, _, rfl, r, [.int 4], rfl, rfl, hv.ex e1, hb, fun H' e' => q H' (e1.trans e')⟩
theorem ok_writeX (e : Ent K mg "write" s_write p_write) (T : Top K mg CM CR CV CG fG CK fK a_SMALL_WIDTH a_SMALL_SEEN) (c1 : Cal P w K mg base (L2.CX P w) 3 "check_mask" p_check_mask (spCheckMask K CM)) (c2 : Cal P w K mg base (L2.CX P w) 3 "check_row" p_check_row (spCheckRowX K CR)) : Cal P w K mg base (L2.CX P w) 4 "write" p_write (spWr K CM CR) := by
  obtain ⟨f, fd, F, m_, b_⟩ := e
  obtain ⟨f_check_mask, fd_check_mask, G_check_mask, m_check_mask, k_check_mask, b_check_mask⟩ := c1
  obtain ⟨f_check_row, fd_check_row, G_check_row, m_check_row, k_check_row, b_check_row⟩ := c2
  refine ⟨f, fd, F.okX sc_write (fun vs H Q E h => ?_) (fun cdv A outer s H vs Q E hr h => ?_), m_, F.kp, b_⟩
  · obtain ⟨m, r, rfl, _⟩ := h
    rfl
  · obtain ⟨m, r, rfl, h⟩ := h
    refine ⟨_, (pss_cons (ps_expr (pe_call G_check_mask (hr.mono (by decide)) (by rfl) m_check_mask k_check_mask b_check_mask .nil (passes_call (takes_of rfl rfl rfl rfl) (fun _ _ _ _ h => h)) (pa_cons (pv 0) pa_nil)))
      (pss_cons (ps_expr (pe_call G_check_row (hr.mono (by decide)) (by rfl) m_check_row k_check_row b_check_row .nil (passes_call (takes_of rfl rfl rfl rfl) (fun _ _ _ _ h => h)) (pa_cons (pv 1) pa_nil)))
      (pss_one ps_never))), ?_⟩
    rcases h with ⟨hv, hb, q⟩ | ⟨rfl, hv, hb, q⟩
    · exact ⟨_, rfl, cm_bad hv hb q⟩
    · refine ⟨_, rfl, .str x1, rfl, .str (by decide +kernel), fun _ H1 e1 => ?_, fun z => absurd z (by decide +kernel)⟩
      dsimp only [tSeq]
      exact ⟨_, rfl, cr_bad (hv.ex e1) hb fun H' e' => q H' (e1.trans e')⟩
theorem ok_tinitX (T : Top K mg CM CR CV CG fG CK fK a_SMALL_WIDTH a_SMALL_SEEN) (c1 : Cal P w K mg base (L2.CX P w) 5 "views" p_views (spRM K CR CM isRowV 0)) : ∃ fd, FnOk P w K mg base (L2.CX P w) (5 + 1) fK fd p_Tracker___init__ (spTX K CR CM) ∧ L2.Binds K fd p_Tracker___init__ [] := by
  obtain ⟨fd, F, b_⟩ := T.t_Tracker_init
  obtain ⟨f_views, fd_views, G_views, m_views, k_views, b_views⟩ := c1
  have cl := T.c_Tracker.cl
  refine ⟨fd, F.okX sc_Tracker___init__ (fun vs H Q E h => ?_) (fun cdv A outer s H vs Q E hr h => ?_), b_⟩
  · obtain ⟨x, r, m, rfl, _⟩ := h
    rfl
  · obtain ⟨x, r, m, rfl, hv, h⟩ := h
    refine ⟨_, (pss_cons (ps_fld (pv 0) (pe_call G_views (hr.mono (by decide)) (by rfl) m_views k_views b_views .nil (passes_call (takes_of rfl rfl rfl rfl) (fun _ _ _ _ h => h)) (pa_cons (pv 1) (pa_cons (pv 2) pa_nil))) rfl)
      (pss_cons ps_never
      (pss_cons ps_never
      (pss_one ps_never)))), ?_⟩
    exact ⟨_, rfl, _, rfl, r, m, [], rfl, rfl, hv, h⟩
end
end K01
namespace K01
open PySem PySem.Spec PyProof.Rows L2 Evl Qt
theorem vok_of {K : PySem.W.Frag} {H : Hp} {v : V} {t : String} (h : Qt.Kind K H v t) (b : kitB t "str" = some (isStr v)) (n : isStr v = false) : VOk K H v := ⟨t, h, b, fun m e => by rw [e] at n; cases n⟩
/-- what stays a value through all that changes the row alone -/
def HeldV (K : PySem.W.Frag) (r : Addr) (H : Hp) (v : V) : Prop := ∀ H2, Xr K r H H2 → VOk K H2 v
theorem HeldV.ok {K : PySem.W.Frag} {r : Addr} {H : Hp} {v : V} (h : HeldV K r H v) : VOk K H v := h H Xr.refl
def spOddV (K : PySem.W.Frag) (g : V → Bool) : Sp := fun vs H Q _ => ∃ (r sc : Addr) (ns : List Int), vs = [.ref r] ∧ Qt.Row K r sc ns H ∧ ∀ v H', HeldV K r H' v → g v = false → Xr K r H H' → Qt.Row K r sc ns H' → Q v H'
theorem held_str {K : PySem.W.Frag} {r : Addr} {H : Hp} {m : Str} (h : m.length ≤ 1000) : HeldV K r H (.str m) := fun _ _ => .str h
theorem held_non {K : PySem.W.Frag} {r : Addr} {H : Hp} : HeldV K r H .non := fun _ _ => vok_of (t := "NoneType") (.base .non) (by decide +kernel) rfl
theorem held_int {K : PySem.W.Frag} {r : Addr} {H : Hp} {i : Int} : HeldV K r H (.int i) := fun _ _ => vok_of (t := "int") (.base (.int i)) (by show kitB "int" "str" = some false; decide +kernel) rfl
theorem held_bl {K : PySem.W.Frag} {r : Addr} {H : Hp} {b : Bool} : HeldV K r H (.bl b) := fun _ _ => vok_of (t := "bool") (.base (.bl b)) (by show kitB "bool" "str" = some false; decide +kernel) rfl
theorem held_tup {K : PySem.W.Frag} {r t : Addr} {H : Hp} {xs : List V} (n : t ≠ r) (h : H t = some (.tup xs)) : HeldV K r H (.ref t) := fun _ X => vok_of (t := "tuple") (.base (.tup (X _ _ n h))) (by show kitB "tuple" "str" = some false; decide +kernel) rfl
theorem held_lst {K : PySem.W.Frag} {r t : Addr} {H : Hp} {xs : List V} (n : t ≠ r) (h : H t = some (.lst xs)) : HeldV K r H (.ref t) := fun _ X => vok_of (t := "list") (.base (.lst (X _ _ n h))) (by show kitB "list" "str" = some false; decide +kernel) rfl
theorem held_dK {K : PySem.W.Frag} {r t : Addr} {H : Hp} (n : t ≠ r) (h : H t = some (.dK [])) : HeldV K r H (.ref t) := fun _ X => vok_of (t := "dict") (.base (.dK (X _ _ n h))) (by show kitB "dict" "str" = some false; decide +kernel) rfl
section
variable {P : Program} {w : World} {K : PySem.W.Frag} {mg : Str → Option Value} {base : Heap} {CM CR CV CG fG CK fK a_SMALL_WIDTH a_SMALL_SEEN : Addr}
theorem ok_odd_mask (e : Ent K mg "_law_odd_mask" s__law_odd_mask p__law_odd_mask) (T : Top K mg CM CR CV CG fG CK fK a_SMALL_WIDTH a_SMALL_SEEN) (c1 : Cal P w K mg base CX0 1 "_law_taken" p__law_taken (spTaken K)) :
    Cal P w K mg base CX0 2 "_law_odd_mask" p__law_odd_mask (spOddV K isMaskV) := by
  obtain ⟨f, fd, F, m_, b_⟩ := e
  obtain ⟨f__law_taken, fd__law_taken, G__law_taken, m__law_taken, k__law_taken, b__law_taken⟩ := c1
  refine ⟨f, fd, F.ok sc__law_odd_mask (fun vs H Q E h => ?_) (fun cdv A outer s H vs Q E hr h => ?_), m_, F.kp, b_⟩
  · obtain ⟨r, sc, ns, rfl, _⟩ := h
    rfl
  · obtain ⟨r, sc, ns, rfl, hR, q⟩ := h
    refine ⟨_, (pss_cons (ps_set (i := 1) sc__law_odd_mask.nd rfl (Or.inl rfl) (pe_lst (pa_cons pe_non (pa_cons pe_str (pa_cons pe_str (pa_cons pe_str (pa_cons pe_str (pa_cons pe_str (pa_cons (pe_op op_mulS pe_str pe_int) (pa_cons pe_str (pa_cons (pe_tup (pa_cons pe_str pa_nil)) (pa_cons (pe_lst (pa_cons pe_str pa_nil)) (pa_cons pe_int (pa_cons pe_bl (pa_cons pe_str (pa_cons pe_dnewK pa_nil))))))))))))))))
      (pss_one (ps_ret (pe_ix ix_list (pv 1) (pe_call G__law_taken (hr.mono (by decide)) (by rfl) m__law_taken k__law_taken b__law_taken .nil pass0 (pa_cons (pv 0) (pa_cons (pe_callB call_len (by rfl) T.m_len (by decide +kernel) (pa_cons (pv 1) pa_nil)) pa_nil))) (fun _ _ => rfl))))), ?_⟩
    refine ⟨_, 13, rfl, rfl, by decide, by decide +kernel, ?_⟩
    refine ⟨by show 1 ≤ sizeLine; decide, fun t nt => ⟨by show 1 ≤ sizeLine; decide, fun l nl d nd => ⟨by show 14 ≤ sizeLine; decide, fun p np => ?_⟩⟩⟩
    have e1 := Ex.new (o := .tup [V.str (PySem.Str.ofString "x")]) nt
    have e2 := Ex.new (o := .lst [V.str (PySem.Str.ofString "x")]) nl
    have e3 := Ex.new (o := .dK []) nd
    have e4 := Ex.new (o := .lst [V.non, .str (PySem.Str.ofString ""), .str (PySem.Str.ofString "."), .str (PySem.Str.ofString "x."), .str (PySem.Str.ofString ".x"), .str (PySem.Str.ofString "xo"), .str (repS (PySem.Str.ofString "x") 13), .str (PySem.Str.ofString "X"), .ref t, .ref l, .int 0, .bl true, .str (PySem.Str.ofString "x x"), .ref d]) np
    refine ⟨_, rfl, _, rfl, _, rfl, .ref p, 14, rfl, .inl ⟨_, sq_of upd_same, rfl⟩, r, sc, ns, 14, rfl, by omega, by omega, (((hR.ex e1).ex e2).ex e3).ex e4, fun n H5 n0 n1 X5 R5 => ?_⟩
    have tr := hR.ne nt
    have lr := hR.ne (fresh_back e1 nl)
    have dr := hR.ne (fresh_back e1 (fresh_back e2 nd))
    have pr := hR.ne (fresh_back e1 (fresh_back e2 (fresh_back e3 np)))
    have h5 := X5 p _ pr upd_same
    have t5 := X5 t _ tr (e4 _ _ (e3 _ _ (e2 _ _ upd_same)))
    have l5 := X5 l _ lr (e4 _ _ (e3 _ _ upd_same))
    have d5 := X5 d _ dr (e4 _ _ upd_same)
    have X := (Xr.of (K := K) (r := r) e1).trans ((Xr.of e2).trans ((Xr.of e3).trans ((Xr.of e4).trans X5)))
    have n14 : n = 0 ∨ n = 1 ∨ n = 2 ∨ n = 3 ∨ n = 4 ∨ n = 5 ∨ n = 6 ∨ n = 7 ∨ n = 8 ∨ n = 9 ∨ n = 10 ∨ n = 11 ∨ n = 12 ∨ n = 13 := by omega
    rcases n14 with rfl | rfl | rfl | rfl | rfl | rfl | rfl | rfl | rfl | rfl | rfl | rfl | rfl | rfl
    · exact ⟨p, _, 0, _, rfl, rfl, sq_of h5, rfl, q _ H5 held_non rfl X R5⟩
    · exact ⟨p, _, 1, _, rfl, rfl, sq_of h5, rfl, q _ H5 (held_str (by decide +kernel)) (by decide +kernel) X R5⟩
    · exact ⟨p, _, 2, _, rfl, rfl, sq_of h5, rfl, q _ H5 (held_str (by decide +kernel)) (by decide +kernel) X R5⟩
    · exact ⟨p, _, 3, _, rfl, rfl, sq_of h5, rfl, q _ H5 (held_str (by decide +kernel)) (by decide +kernel) X R5⟩
    · exact ⟨p, _, 4, _, rfl, rfl, sq_of h5, rfl, q _ H5 (held_str (by decide +kernel)) (by decide +kernel) X R5⟩
    · exact ⟨p, _, 5, _, rfl, rfl, sq_of h5, rfl, q _ H5 (held_str (by decide +kernel)) (by decide +kernel) X R5⟩
    · exact ⟨p, _, 6, _, rfl, rfl, sq_of h5, rfl, q _ H5 (held_str (by decide +kernel)) (by decide +kernel) X R5⟩
    · exact ⟨p, _, 7, _, rfl, rfl, sq_of h5, rfl, q _ H5 (held_str (by decide +kernel)) (by decide +kernel) X R5⟩
    · exact ⟨p, _, 8, _, rfl, rfl, sq_of h5, rfl, q _ H5 (held_tup tr t5) rfl X R5⟩
    · exact ⟨p, _, 9, _, rfl, rfl, sq_of h5, rfl, q _ H5 (held_lst lr l5) rfl X R5⟩
    · exact ⟨p, _, 10, _, rfl, rfl, sq_of h5, rfl, q _ H5 held_int rfl X R5⟩
    · exact ⟨p, _, 11, _, rfl, rfl, sq_of h5, rfl, q _ H5 held_bl rfl X R5⟩
    · exact ⟨p, _, 12, _, rfl, rfl, sq_of h5, rfl, q _ H5 (held_str (by decide +kernel)) (by decide +kernel) X R5⟩
    · exact ⟨p, _, 13, _, rfl, rfl, sq_of h5, rfl, q _ H5 (held_dK dr d5) rfl X R5⟩
theorem ok_odd_row (e : Ent K mg "_law_odd_row" s__law_odd_row p__law_odd_row) (T : Top K mg CM CR CV CG fG CK fK a_SMALL_WIDTH a_SMALL_SEEN) (c1 : Cal P w K mg base CX0 1 "_law_taken" p__law_taken (spTaken K)) :
    Cal P w K mg base CX0 2 "_law_odd_row" p__law_odd_row (spOddV K isRowV) := by
  obtain ⟨f, fd, F, m_, b_⟩ := e
  obtain ⟨f__law_taken, fd__law_taken, G__law_taken, m__law_taken, k__law_taken, b__law_taken⟩ := c1
  refine ⟨f, fd, F.ok sc__law_odd_row (fun vs H Q E h => ?_) (fun cdv A outer s H vs Q E hr h => ?_), m_, F.kp, b_⟩
  · obtain ⟨r, sc, ns, rfl, _⟩ := h
    rfl
  · obtain ⟨r, sc, ns, rfl, hR, q⟩ := h
    refine ⟨_, (pss_cons (ps_set (i := 1) sc__law_odd_row.nd rfl (Or.inl rfl) (pe_lst (pa_cons pe_non (pa_cons pe_str (pa_cons pe_str (pa_cons pe_str (pa_cons pe_str (pa_cons (pe_op op_mulS pe_str pe_int) (pa_cons (pe_tup (pa_cons pe_str pa_nil)) (pa_cons (pe_lst (pa_cons pe_str pa_nil)) (pa_cons pe_int (pa_cons pe_bl (pa_cons pe_dnewK (pa_cons pe_str pa_nil))))))))))))))
      (pss_one (ps_ret (pe_ix ix_list (pv 1) (pe_call G__law_taken (hr.mono (by decide)) (by rfl) m__law_taken k__law_taken b__law_taken .nil pass0 (pa_cons (pv 0) (pa_cons (pe_callB call_len (by rfl) T.m_len (by decide +kernel) (pa_cons (pv 1) pa_nil)) pa_nil))) (fun _ _ => rfl))))), ?_⟩
    refine ⟨_, 61, rfl, rfl, by decide, by decide +kernel, ?_⟩
    refine ⟨by show 1 ≤ sizeLine; decide, fun t nt => ⟨by show 1 ≤ sizeLine; decide, fun l nl d nd => ⟨by show 12 ≤ sizeLine; decide, fun p np => ?_⟩⟩⟩
    have e1 := Ex.new (o := .tup [V.str (PySem.Str.ofString "a")]) nt
    have e2 := Ex.new (o := .lst [V.str (PySem.Str.ofString "a")]) nl
    have e3 := Ex.new (o := .dK []) nd
    have e4 := Ex.new (o := .lst [V.non, .str (PySem.Str.ofString "e"), .str (PySem.Str.ofString "A"), .str (PySem.Str.ofString "a b"), .str (PySem.Str.ofString "a?"), .str (repS (PySem.Str.ofString "a") 61), .ref t, .ref l, .int 0, .bl true, .ref d, .str (PySem.Str.ofString "x")]) np
    refine ⟨_, rfl, _, rfl, _, rfl, .ref p, 12, rfl, .inl ⟨_, sq_of upd_same, rfl⟩, r, sc, ns, 12, rfl, by omega, by omega, (((hR.ex e1).ex e2).ex e3).ex e4, fun n H5 n0 n1 X5 R5 => ?_⟩
    have tr := hR.ne nt
    have lr := hR.ne (fresh_back e1 nl)
    have dr := hR.ne (fresh_back e1 (fresh_back e2 nd))
    have pr := hR.ne (fresh_back e1 (fresh_back e2 (fresh_back e3 np)))
    have h5 := X5 p _ pr upd_same
    have t5 := X5 t _ tr (e4 _ _ (e3 _ _ (e2 _ _ upd_same)))
    have l5 := X5 l _ lr (e4 _ _ (e3 _ _ upd_same))
    have d5 := X5 d _ dr (e4 _ _ upd_same)
    have X := (Xr.of (K := K) (r := r) e1).trans ((Xr.of e2).trans ((Xr.of e3).trans ((Xr.of e4).trans X5)))
    have n12 : n = 0 ∨ n = 1 ∨ n = 2 ∨ n = 3 ∨ n = 4 ∨ n = 5 ∨ n = 6 ∨ n = 7 ∨ n = 8 ∨ n = 9 ∨ n = 10 ∨ n = 11 := by omega
    rcases n12 with rfl | rfl | rfl | rfl | rfl | rfl | rfl | rfl | rfl | rfl | rfl | rfl
    · exact ⟨p, _, 0, _, rfl, rfl, sq_of h5, rfl, q _ H5 held_non rfl X R5⟩
    · exact ⟨p, _, 1, _, rfl, rfl, sq_of h5, rfl, q _ H5 (held_str (by decide +kernel)) (by decide +kernel) X R5⟩
    · exact ⟨p, _, 2, _, rfl, rfl, sq_of h5, rfl, q _ H5 (held_str (by decide +kernel)) (by decide +kernel) X R5⟩
    · exact ⟨p, _, 3, _, rfl, rfl, sq_of h5, rfl, q _ H5 (held_str (by decide +kernel)) (by decide +kernel) X R5⟩
    · exact ⟨p, _, 4, _, rfl, rfl, sq_of h5, rfl, q _ H5 (held_str (by decide +kernel)) (by decide +kernel) X R5⟩
    · exact ⟨p, _, 5, _, rfl, rfl, sq_of h5, rfl, q _ H5 (held_str (by decide +kernel)) (by decide +kernel) X R5⟩
    · exact ⟨p, _, 6, _, rfl, rfl, sq_of h5, rfl, q _ H5 (held_tup tr t5) rfl X R5⟩
    · exact ⟨p, _, 7, _, rfl, rfl, sq_of h5, rfl, q _ H5 (held_lst lr l5) rfl X R5⟩
    · exact ⟨p, _, 8, _, rfl, rfl, sq_of h5, rfl, q _ H5 held_int rfl X R5⟩
    · exact ⟨p, _, 9, _, rfl, rfl, sq_of h5, rfl, q _ H5 held_bl rfl X R5⟩
    · exact ⟨p, _, 10, _, rfl, rfl, sq_of h5, rfl, q _ H5 (held_dK dr d5) rfl X R5⟩
    · exact ⟨p, _, 11, _, rfl, rfl, sq_of h5, rfl, q _ H5 (held_str (by decide +kernel)) (by decide +kernel) X R5⟩
end
end K01
namespace K01
open PySem PySem.Spec PyProof.Rows L2 Evl Qt
def ab : Str := PySem.Str.ofString "abba"
theorem ab_row : isRowV (.str ab) = true := by unfold ab; decide +kernel
theorem ab_ring : ringOk (.str ab) = true := by unfold ab; decide +kernel
theorem ring_bad {v : V} (h : isRowV v = false) : ringOk v = false := by
  cases v with
  | str z =>
    show (isRow z && !decide (z.length = 0)) = false
    rw [show isRow z = false from h]
    rfl
  | _ => rfl
theorem ab_ok {K : PySem.W.Frag} {H : Hp} : VOk K H (.str ab) := .str (by unfold ab; decide +kernel)
def spMk (K : PySem.W.Frag) (CM : Addr) : Sp := fun vs H _ E => ∃ (k : Int) (v : V), vs = [.int k, v] ∧ 0 ≤ k ∧ k ≤ 27 ∧ VOk K H v ∧ isMaskV v = false ∧ ∀ H', Ex H H' → E (.ref CM) none H'
def spRk (K : PySem.W.Frag) (CR : Addr) : Sp := fun vs H _ E => ∃ (k : Int) (v : V), vs = [.int k, v] ∧ 0 ≤ k ∧ k ≤ 18 ∧ VOk K H v ∧ (isRowV v = false ∨ ((k = 1 ∨ k = 2) ∧ ringOk v = false)) ∧ ∀ H', Ex H H' → E (.ref CR) none H'
section
variable {P : Program} {w : World} {K : PySem.W.Frag} {mg : Str → Option Value} {base : Heap} {CM CR CV CG fG CK fK a_SMALL_WIDTH a_SMALL_SEEN : Addr}
theorem ok_law_masked (e : Ent K mg "_law_masked" s__law_masked p__law_masked) (T : Top K mg CM CR CV CG fG CK fK a_SMALL_WIDTH a_SMALL_SEEN) (c1 : Cal P w K mg base (L2.CX P w) 10 "longest" p_longest (spMF K CM 1)) (c2 : Cal P w K mg base (L2.CX P w) 9 "longest_rows" p_longest_rows (spMF K CM 1)) (c3 : Cal P w K mg base (L2.CX P w) 9 "full_rings" p_full_rings (spMF K CM 1)) (c4 : Cal P w K mg base (L2.CX P w) 9 "longest_ring" p_longest_ring (spMF K CM 1)) (c5 : Cal P w K mg base (L2.CX P w) 8 "joined" p_joined (spMF K CM 1)) (c6 : Cal P w K mg base (L2.CX P w) 8 "first_clash" p_first_clash (spMF K CM 1)) (c7 : Cal P w K mg base (L2.CX P w) 7 "rows_from" p_rows_from (spMF K CM 1)) (c8 : Cal P w K mg base (L2.CX P w) 8 "sure_from" p_sure_from (spMF K CM 1)) (c9 : Cal P w K mg base (L2.CX P w) 6 "together" p_together (spMF K CM 2)) (c10 : Cal P w K mg base (L2.CX P w) 9 "count_rows" p_count_rows (spMF K CM 2)) (c11 : Cal P w K mg base (L2.CX P w) 6 "steps_needed" p_steps_needed (spRM K CR CM isRowV 0)) (c12 : Cal P w K mg base (L2.CX P w) 5 "views" p_views (spRM K CR CM isRowV 0)) (c13 : Cal P w K mg base (L2.CX P w) 6 "alike" p_alike (spRM K CR CM isRowV 0)) (c14 : Cal P w K mg base (L2.CX P w) 6 "distance" p_distance (spRM K CR CM isRowV 0)) (c15 : Cal P w K mg base (L2.CX P w) 6 "groups" p_groups (spRM K CR CM isRowV 0)) (c16 : Cal P w K mg base (L2.CX P w) 6 "tells" p_tells (spRM K CR CM isRowV 0)) (c17 : Cal P w K mg base (L2.CX P w) 6 "ring_tells" p_ring_tells (spRM K CR CM ringOk 0)) (c18 : Cal P w K mg base (L2.CX P w) 5 "ring_views" p_ring_views (spRM K CR CM ringOk 0)) (c19 : Cal P w K mg base (L2.CX P w) 7 "next_letters" p_next_letters (spLM K CM CR)) (c20 : Cal P w K mg base (L2.CX P w) 9 "farthest" p_farthest (spLM K CM CR)) (c21 : Cal P w K mg base (L2.CX P w) 8 "mend" p_mend (spLM K CM CR)) (c22 : Cal P w K mg base (L2.CX P w) 7 "weak_letters" p_weak_letters (spLM K CM CR)) (c23 : Cal P w K mg base (L2.CX P w) 4 "seen" p_seen (spSeen K CM)) (c24 : Cal P w K mg base (L2.CX P w) 4 "write" p_write (spWr K CM CR)) (c25 : Cal P w K mg base (L2.CX P w) 7 "find" p_find (spRM K CR CM isRowV 1)) (c26 : Cal P w K mg base (L2.CX P w) 6 "near" p_near (spRM K CR CM isRowV 2)) (c27 : Cal P w K mg base (L2.CX P w) 7 "stands" p_stands (spRM K CR CM isRowV 2))
    (i1 : ∃ fd, FnOk P w K mg base (L2.CX P w) (5 + 1) fK fd p_Tracker___init__ (spTX K CR CM) ∧ L2.Binds K fd p_Tracker___init__ []) : Cal P w K mg base (L2.CX P w) 11 "_law_masked" p__law_masked (spMk K CM) := by
  obtain ⟨f, fd, F, m_, b_⟩ := e
  obtain ⟨f_longest, fd_longest, G_longest, m_longest, k_longest, b_longest⟩ := c1
  obtain ⟨f_longest_rows, fd_longest_rows, G_longest_rows, m_longest_rows, k_longest_rows, b_longest_rows⟩ := c2
  obtain ⟨f_full_rings, fd_full_rings, G_full_rings, m_full_rings, k_full_rings, b_full_rings⟩ := c3
  obtain ⟨f_longest_ring, fd_longest_ring, G_longest_ring, m_longest_ring, k_longest_ring, b_longest_ring⟩ := c4
  obtain ⟨f_joined, fd_joined, G_joined, m_joined, k_joined, b_joined⟩ := c5
  obtain ⟨f_first_clash, fd_first_clash, G_first_clash, m_first_clash, k_first_clash, b_first_clash⟩ := c6
  obtain ⟨f_rows_from, fd_rows_from, G_rows_from, m_rows_from, k_rows_from, b_rows_from⟩ := c7
  obtain ⟨f_sure_from, fd_sure_from, G_sure_from, m_sure_from, k_sure_from, b_sure_from⟩ := c8
  obtain ⟨f_together, fd_together, G_together, m_together, k_together, b_together⟩ := c9
  obtain ⟨f_count_rows, fd_count_rows, G_count_rows, m_count_rows, k_count_rows, b_count_rows⟩ := c10
  obtain ⟨f_steps_needed, fd_steps_needed, G_steps_needed, m_steps_needed, k_steps_needed, b_steps_needed⟩ := c11
  obtain ⟨f_views, fd_views, G_views, m_views, k_views, b_views⟩ := c12
  obtain ⟨f_alike, fd_alike, G_alike, m_alike, k_alike, b_alike⟩ := c13
  obtain ⟨f_distance, fd_distance, G_distance, m_distance, k_distance, b_distance⟩ := c14
  obtain ⟨f_groups, fd_groups, G_groups, m_groups, k_groups, b_groups⟩ := c15
  obtain ⟨f_tells, fd_tells, G_tells, m_tells, k_tells, b_tells⟩ := c16
  obtain ⟨f_ring_tells, fd_ring_tells, G_ring_tells, m_ring_tells, k_ring_tells, b_ring_tells⟩ := c17
  obtain ⟨f_ring_views, fd_ring_views, G_ring_views, m_ring_views, k_ring_views, b_ring_views⟩ := c18
  obtain ⟨f_next_letters, fd_next_letters, G_next_letters, m_next_letters, k_next_letters, b_next_letters⟩ := c19
  obtain ⟨f_farthest, fd_farthest, G_farthest, m_farthest, k_farthest, b_farthest⟩ := c20
  obtain ⟨f_mend, fd_mend, G_mend, m_mend, k_mend, b_mend⟩ := c21
  obtain ⟨f_weak_letters, fd_weak_letters, G_weak_letters, m_weak_letters, k_weak_letters, b_weak_letters⟩ := c22
  obtain ⟨f_seen, fd_seen, G_seen, m_seen, k_seen, b_seen⟩ := c23
  obtain ⟨f_write, fd_write, G_write, m_write, k_write, b_write⟩ := c24
  obtain ⟨f_find, fd_find, G_find, m_find, k_find, b_find⟩ := c25
  obtain ⟨f_near, fd_near, G_near, m_near, k_near, b_near⟩ := c26
  obtain ⟨f_stands, fd_stands, G_stands, m_stands, k_stands, b_stands⟩ := c27
  obtain ⟨fd_Tracker_init, G_Tracker_init, b_Tracker_init⟩ := i1
  have M_Tracker := T.c_Tracker.mks
  have mc_Tracker := T.c_Tracker.m
  have hC : ∀ f sp, (f, sp) ∈ ([(f_longest, spMF K CM 1), (f_longest_rows, spMF K CM 1), (f_full_rings, spMF K CM 1), (f_longest_ring, spMF K CM 1), (f_joined, spMF K CM 1), (f_first_clash, spMF K CM 1), (f_rows_from, spMF K CM 1), (f_sure_from, spMF K CM 1), (f_together, spMF K CM 2), (f_count_rows, spMF K CM 2), (f_steps_needed, spRM K CR CM isRowV 0), (f_views, spRM K CR CM isRowV 0), (f_alike, spRM K CR CM isRowV 0), (f_distance, spRM K CR CM isRowV 0), (f_groups, spRM K CR CM isRowV 0), (f_tells, spRM K CR CM isRowV 0), (f_ring_tells, spRM K CR CM ringOk 0), (f_ring_views, spRM K CR CM ringOk 0), (f_next_letters, spLM K CM CR), (f_farthest, spLM K CM CR), (f_mend, spLM K CM CR), (f_weak_letters, spLM K CM CR)] : List (Addr × Sp)) → PySem.W.keepIn K (.ref f) = true ∧ ∃ k fd ps, k ≤ 10 ∧ FnOk P w K mg base (L2.CX P w) k f fd ps sp ∧ L2.Binds K fd ps [] := by
    intro f sp h
    simp only [List.mem_cons, Prod.mk.injEq, List.not_mem_nil, or_false] at h
    rcases h with ⟨rfl, rfl⟩ | ⟨rfl, rfl⟩ | ⟨rfl, rfl⟩ | ⟨rfl, rfl⟩ | ⟨rfl, rfl⟩ | ⟨rfl, rfl⟩ | ⟨rfl, rfl⟩ | ⟨rfl, rfl⟩ | ⟨rfl, rfl⟩ | ⟨rfl, rfl⟩ | ⟨rfl, rfl⟩ | ⟨rfl, rfl⟩ | ⟨rfl, rfl⟩ | ⟨rfl, rfl⟩ | ⟨rfl, rfl⟩ | ⟨rfl, rfl⟩ | ⟨rfl, rfl⟩ | ⟨rfl, rfl⟩ | ⟨rfl, rfl⟩ | ⟨rfl, rfl⟩ | ⟨rfl, rfl⟩ | ⟨rfl, rfl⟩
    · exact ⟨k_longest, _, _, _, by decide, G_longest, b_longest⟩
    · exact ⟨k_longest_rows, _, _, _, by decide, G_longest_rows, b_longest_rows⟩
    · exact ⟨k_full_rings, _, _, _, by decide, G_full_rings, b_full_rings⟩
    · exact ⟨k_longest_ring, _, _, _, by decide, G_longest_ring, b_longest_ring⟩
    · exact ⟨k_joined, _, _, _, by decide, G_joined, b_joined⟩
    · exact ⟨k_first_clash, _, _, _, by decide, G_first_clash, b_first_clash⟩
    · exact ⟨k_rows_from, _, _, _, by decide, G_rows_from, b_rows_from⟩
    · exact ⟨k_sure_from, _, _, _, by decide, G_sure_from, b_sure_from⟩
    · exact ⟨k_together, _, _, _, by decide, G_together, b_together⟩
    · exact ⟨k_count_rows, _, _, _, by decide, G_count_rows, b_count_rows⟩
    · exact ⟨k_steps_needed, _, _, _, by decide, G_steps_needed, b_steps_needed⟩
    · exact ⟨k_views, _, _, _, by decide, G_views, b_views⟩
    · exact ⟨k_alike, _, _, _, by decide, G_alike, b_alike⟩
    · exact ⟨k_distance, _, _, _, by decide, G_distance, b_distance⟩
    · exact ⟨k_groups, _, _, _, by decide, G_groups, b_groups⟩
    · exact ⟨k_tells, _, _, _, by decide, G_tells, b_tells⟩
    · exact ⟨k_ring_tells, _, _, _, by decide, G_ring_tells, b_ring_tells⟩
    · exact ⟨k_ring_views, _, _, _, by decide, G_ring_views, b_ring_views⟩
    · exact ⟨k_next_letters, _, _, _, by decide, G_next_letters, b_next_letters⟩
    · exact ⟨k_farthest, _, _, _, by decide, G_farthest, b_farthest⟩
    · exact ⟨k_mend, _, _, _, by decide, G_mend, b_mend⟩
    · exact ⟨k_weak_letters, _, _, _, by decide, G_weak_letters, b_weak_letters⟩
  refine ⟨f, fd, F.okX sc__law_masked (fun vs H Q E h => ?_) (fun cdv A outer s H vs Q E hr h => ?_), m_, F.kp, b_⟩
  · obtain ⟨k, v, rfl, _⟩ := h
    rfl
  · obtain ⟨k, v, rfl, k0, k27, hv, hb, q⟩ := h
    refine ⟨_, (pss_one (ps_if (pt_cmpR op_eq (pv 0) pe_int (nomark _)) (pss_one (ps_expr (pe_call G_seen (hr.mono (by decide)) (by rfl) m_seen k_seen b_seen .nil (passes_call (takes_of rfl rfl rfl rfl) (fun _ _ _ _ h => h)) (pa_cons (pv 1) pa_nil)))) (pss_one (ps_if (pt_cmpR op_lt (pv 0) pe_int (nomark _)) (pss_cons (ps_set (i := 2) sc__law_masked.nd rfl (Or.inl rfl) (pe_lst (pa_cons (pe_glob (v := .ref f_longest) (by rfl) m_longest rfl) (pa_cons (pe_glob (v := .ref f_longest_rows) (by rfl) m_longest_rows rfl) (pa_cons (pe_glob (v := .ref f_full_rings) (by rfl) m_full_rings rfl) (pa_cons (pe_glob (v := .ref f_longest_ring) (by rfl) m_longest_ring rfl) (pa_cons (pe_glob (v := .ref f_joined) (by rfl) m_joined rfl) (pa_cons (pe_glob (v := .ref f_first_clash) (by rfl) m_first_clash rfl) (pa_cons (pe_glob (v := .ref f_rows_from) (by rfl) m_rows_from rfl) (pa_cons (pe_glob (v := .ref f_sure_from) (by rfl) m_sure_from rfl) pa_nil))))))))))
      (pss_one (ps_expr (pe_callES (hr.mono (by decide)) (pe_ix ix_list (pv 2) (pe_op op_sub (pv 0) pe_int) (fun _ _ => rfl)) hC (fun σ => passAt (takes_of rfl rfl rfl rfl) σ) (pa_cons (pv 1) (pa_cons pe_non pa_nil)))))) (pss_one (ps_if (pt_cmpR op_lt (pv 0) pe_int (nomark _)) (pss_one (ps_expr (pe_callES (hr.mono (by decide)) (pe_ix ix_list (pe_lst (pa_cons (pe_glob (v := .ref f_together) (by rfl) m_together rfl) (pa_cons (pe_glob (v := .ref f_count_rows) (by rfl) m_count_rows rfl) pa_nil))) (pe_op op_sub (pv 0) pe_int) (fun _ _ => rfl)) hC (fun σ => passAt (takes_of rfl rfl rfl rfl) σ) (pa_cons (pv 1) (pa_cons pe_non (pa_cons pe_non pa_nil)))))) (pss_one (ps_if (pt_cmpR op_eq (pv 0) pe_int (nomark _)) (pss_one (ps_expr (pe_call G_write (hr.mono (by decide)) (by rfl) m_write k_write b_write .nil (passes_call (takes_of rfl rfl rfl rfl) (fun _ _ _ _ h => h)) (pa_cons (pv 1) (pa_cons pe_non pa_nil))))) (pss_one (ps_if (pt_cmpR op_lt (pv 0) pe_int (nomark _)) (pss_cons (ps_set (i := 2) sc__law_masked.nd rfl (Or.inl rfl) (pe_lst (pa_cons (pe_glob (v := .ref f_steps_needed) (by rfl) m_steps_needed rfl) (pa_cons (pe_glob (v := .ref f_ring_tells) (by rfl) m_ring_tells rfl) (pa_cons (pe_glob (v := .ref f_ring_views) (by rfl) m_ring_views rfl) (pa_cons (pe_glob (v := .ref f_views) (by rfl) m_views rfl) (pa_cons (pe_glob (v := .ref f_alike) (by rfl) m_alike rfl) (pa_cons (pe_glob (v := .ref f_distance) (by rfl) m_distance rfl) (pa_cons (pe_glob (v := .ref f_groups) (by rfl) m_groups rfl) (pa_cons (pe_glob (v := .ref f_tells) (by rfl) m_tells rfl) pa_nil))))))))))
      (pss_one (ps_expr (pe_callES (hr.mono (by decide)) (pe_ix ix_list (pv 2) (pe_op op_sub (pv 0) pe_int) (fun _ _ => rfl)) hC (fun σ => passAt (takes_of rfl rfl rfl rfl) σ) (pa_cons pe_str (pa_cons (pv 1) pa_nil)))))) (pss_one (ps_if (pt_cmpR op_eq (pv 0) pe_int (nomark _)) (pss_one (ps_expr (pe_make M_Tracker G_Tracker_init (hr.mono (by decide)) (by rfl) mc_Tracker b_Tracker_init .nil (passes_call (takes_of rfl rfl rfl rfl) (fun _ _ _ _ h => h)) (pa_cons pe_str (pa_cons (pv 1) pa_nil))))) (pss_one (ps_if (pt_cmpR op_lt (pv 0) pe_int (nomark _)) (pss_one (ps_expr (pe_callES (hr.mono (by decide)) (pe_ix ix_list (pe_lst (pa_cons (pe_glob (v := .ref f_next_letters) (by rfl) m_next_letters rfl) (pa_cons (pe_glob (v := .ref f_farthest) (by rfl) m_farthest rfl) (pa_cons (pe_glob (v := .ref f_mend) (by rfl) m_mend rfl) (pa_cons (pe_glob (v := .ref f_weak_letters) (by rfl) m_weak_letters rfl) pa_nil))))) (pe_op op_sub (pv 0) pe_int) (fun _ _ => rfl)) hC (fun σ => passAt (takes_of rfl rfl rfl rfl) σ) (pa_cons pe_non (pa_cons (pv 1) (pa_cons pe_non pa_nil)))))) (pss_one (ps_if (pt_cmpR op_eq (pv 0) pe_int (nomark _)) (pss_one (ps_expr (pe_call G_find (hr.mono (by decide)) (by rfl) m_find k_find b_find .nil (passes_call (takes_of rfl rfl rfl rfl) (fun _ _ _ _ h => h)) (pa_cons pe_str (pa_cons (pv 1) (pa_cons pe_non pa_nil)))))) (pss_one (ps_if (pt_cmpR op_eq (pv 0) pe_int (nomark _)) (pss_one (ps_expr (pe_call G_near (hr.mono (by decide)) (by rfl) m_near k_near b_near .nil (passes_call (takes_of rfl rfl rfl rfl) (fun _ _ _ _ h => h)) (pa_cons pe_str (pa_cons (pv 1) (pa_cons pe_non (pa_cons pe_non pa_nil))))))) (pss_one (ps_expr (pe_call G_stands (hr.mono (by decide)) (by rfl) m_stands k_stands b_stands .nil (passes_call (takes_of rfl rfl rfl rfl) (fun _ _ _ _ h => h)) (pa_cons pe_str (pa_cons (pv 1) (pa_cons pe_non (pa_cons pe_non pa_nil))))))))))))))))))))))))), ?_⟩
    refine s_if (b := decide (V.int k = V.int 0)) (et_test (ev_op (ev_var rfl) ev_c (rv_eq rfl))) (fun hk H1 e1 => ?_) (fun hk H1 e1 => ?_)
    · have hk : k = 0 := by have := of_decide_eq_true hk; injection this
      have e0 := e1
      exact ⟨_, rfl, seen_bad (hv.ex e0) hb fun H' e' => q H' (e0.trans e')⟩
    · have hk0 : k ≠ 0 := fun z => by rw [z] at hk; simp at hk
      have ez := e1
      refine s_if (b := decide (k < 9)) (et_test (ev_op (ev_var rfl) ev_c rv_I0)) (fun hk H2 e2 => ?_) (fun hk H2 e2 => ?_)
      · have hk := of_decide_eq_true hk
        have e0 := ez.trans e2
        refine ⟨by show 8 ≤ sizeLine; decide, fun L nL => ?_⟩
        have eL := e0.trans (Ex.new (o := .lst [V.ref f_longest, V.ref f_longest_rows, V.ref f_full_rings, V.ref f_longest_ring, V.ref f_joined, V.ref f_first_clash, V.ref f_rows_from, V.ref f_sure_from]) nL)
        have hv := hv.ex eL
        have q := fun H' e' => q H' (eL.trans e')
        obtain ⟨f0, sp0, hat, hcd, hsp⟩ : ∃ (f0 : Addr) (sp0 : Sp), atI [V.ref f_longest, V.ref f_longest_rows, V.ref f_full_rings, V.ref f_longest_ring, V.ref f_joined, V.ref f_first_clash, V.ref f_rows_from, V.ref f_sure_from] (k - 1) = some (.ref f0) ∧ (f0, sp0) ∈ ([(f_longest, spMF K CM 1), (f_longest_rows, spMF K CM 1), (f_full_rings, spMF K CM 1), (f_longest_ring, spMF K CM 1), (f_joined, spMF K CM 1), (f_first_clash, spMF K CM 1), (f_rows_from, spMF K CM 1), (f_sure_from, spMF K CM 1), (f_together, spMF K CM 2), (f_count_rows, spMF K CM 2), (f_steps_needed, spRM K CR CM isRowV 0), (f_views, spRM K CR CM isRowV 0), (f_alike, spRM K CR CM isRowV 0), (f_distance, spRM K CR CM isRowV 0), (f_groups, spRM K CR CM isRowV 0), (f_tells, spRM K CR CM isRowV 0), (f_ring_tells, spRM K CR CM ringOk 0), (f_ring_views, spRM K CR CM ringOk 0), (f_next_letters, spLM K CM CR), (f_farthest, spLM K CM CR), (f_mend, spLM K CM CR), (f_weak_letters, spLM K CM CR)] : List (Addr × Sp)) ∧ ∀ Q, sp0 [v, .non] _ Q E := by
          have : k = 1 ∨ k = 2 ∨ k = 3 ∨ k = 4 ∨ k = 5 ∨ k = 6 ∨ k = 7 ∨ k = 8 := by omega
          rcases this with rfl | rfl | rfl | rfl | rfl | rfl | rfl | rfl
          · exact ⟨_, _, rfl, (.head _), fun Q => ⟨v, [.non], rfl, rfl, hv, hb, q⟩⟩
          · exact ⟨_, _, rfl, (.tail _ (.head _)), fun Q => ⟨v, [.non], rfl, rfl, hv, hb, q⟩⟩
          · exact ⟨_, _, rfl, (.tail _ (.tail _ (.head _))), fun Q => ⟨v, [.non], rfl, rfl, hv, hb, q⟩⟩
          · exact ⟨_, _, rfl, (.tail _ (.tail _ (.tail _ (.head _)))), fun Q => ⟨v, [.non], rfl, rfl, hv, hb, q⟩⟩
          · exact ⟨_, _, rfl, (.tail _ (.tail _ (.tail _ (.tail _ (.head _))))), fun Q => ⟨v, [.non], rfl, rfl, hv, hb, q⟩⟩
          · exact ⟨_, _, rfl, (.tail _ (.tail _ (.tail _ (.tail _ (.tail _ (.head _)))))), fun Q => ⟨v, [.non], rfl, rfl, hv, hb, q⟩⟩
          · exact ⟨_, _, rfl, (.tail _ (.tail _ (.tail _ (.tail _ (.tail _ (.tail _ (.head _))))))), fun Q => ⟨v, [.non], rfl, rfl, hv, hb, q⟩⟩
          · exact ⟨_, _, rfl, (.tail _ (.tail _ (.tail _ (.tail _ (.tail _ (.tail _ (.tail _ (.head _)))))))), fun Q => ⟨v, [.non], rfl, rfl, hv, hb, q⟩⟩
        exact ⟨_, rfl, _, rfl, _, _, rfl, rfl, L, _, (k - 1), .ref f0, rfl, rfl, sq_of upd_same, hat, f0, sp0, rfl, hcd, _, rfl, hsp _⟩
      · have hk1 := of_decide_eq_false hk
        have ez := ez.trans e2
        refine s_if (b := decide (k < 11)) (et_test (ev_op (ev_var rfl) ev_c rv_I0)) (fun hk H3 e3 => ?_) (fun hk H3 e3 => ?_)
        · have hk := of_decide_eq_true hk
          have e0 := ez.trans e3
          refine ⟨by show 2 ≤ sizeLine; decide, fun L nL => ?_⟩
          have eL := e0.trans (Ex.new (o := .lst [V.ref f_together, V.ref f_count_rows]) nL)
          have hv := hv.ex eL
          have q := fun H' e' => q H' (eL.trans e')
          obtain ⟨f0, sp0, hat, hcd, hsp⟩ : ∃ (f0 : Addr) (sp0 : Sp), atI [V.ref f_together, V.ref f_count_rows] (k - 9) = some (.ref f0) ∧ (f0, sp0) ∈ ([(f_longest, spMF K CM 1), (f_longest_rows, spMF K CM 1), (f_full_rings, spMF K CM 1), (f_longest_ring, spMF K CM 1), (f_joined, spMF K CM 1), (f_first_clash, spMF K CM 1), (f_rows_from, spMF K CM 1), (f_sure_from, spMF K CM 1), (f_together, spMF K CM 2), (f_count_rows, spMF K CM 2), (f_steps_needed, spRM K CR CM isRowV 0), (f_views, spRM K CR CM isRowV 0), (f_alike, spRM K CR CM isRowV 0), (f_distance, spRM K CR CM isRowV 0), (f_groups, spRM K CR CM isRowV 0), (f_tells, spRM K CR CM isRowV 0), (f_ring_tells, spRM K CR CM ringOk 0), (f_ring_views, spRM K CR CM ringOk 0), (f_next_letters, spLM K CM CR), (f_farthest, spLM K CM CR), (f_mend, spLM K CM CR), (f_weak_letters, spLM K CM CR)] : List (Addr × Sp)) ∧ ∀ Q, sp0 [v, .non, .non] _ Q E := by
            have : k = 9 ∨ k = 10 := by omega
            rcases this with rfl | rfl
            · exact ⟨_, _, rfl, (.tail _ (.tail _ (.tail _ (.tail _ (.tail _ (.tail _ (.tail _ (.tail _ (.head _))))))))), fun Q => ⟨v, [.non, .non], rfl, rfl, hv, hb, q⟩⟩
            · exact ⟨_, _, rfl, (.tail _ (.tail _ (.tail _ (.tail _ (.tail _ (.tail _ (.tail _ (.tail _ (.tail _ (.head _)))))))))), fun Q => ⟨v, [.non, .non], rfl, rfl, hv, hb, q⟩⟩
          exact ⟨_, rfl, _, _, rfl, rfl, L, _, (k - 9), .ref f0, rfl, rfl, sq_of upd_same, hat, f0, sp0, rfl, hcd, _, rfl, hsp _⟩
        · have hk2 := of_decide_eq_false hk
          have ez := ez.trans e3
          refine s_if (b := decide (V.int k = V.int 11)) (et_test (ev_op (ev_var rfl) ev_c (rv_eq rfl))) (fun hk H4 e4 => ?_) (fun hk H4 e4 => ?_)
          · have hk : k = 11 := by have := of_decide_eq_true hk; injection this
            have e0 := ez.trans e4
            exact ⟨_, rfl, v, .non, rfl, .inl ⟨hv.ex e0, hb, fun H' e' => q H' (e0.trans e')⟩⟩
          · have hk3 : k ≠ 11 := fun z => by rw [z] at hk; simp at hk
            have ez := ez.trans e4
            refine s_if (b := decide (k < 20)) (et_test (ev_op (ev_var rfl) ev_c rv_I0)) (fun hk H5 e5 => ?_) (fun hk H5 e5 => ?_)
            · have hk := of_decide_eq_true hk
              have e0 := ez.trans e5
              refine ⟨by show 8 ≤ sizeLine; decide, fun L nL => ?_⟩
              have eL := e0.trans (Ex.new (o := .lst [V.ref f_steps_needed, V.ref f_ring_tells, V.ref f_ring_views, V.ref f_views, V.ref f_alike, V.ref f_distance, V.ref f_groups, V.ref f_tells]) nL)
              have hv := hv.ex eL
              have q := fun H' e' => q H' (eL.trans e')
              obtain ⟨f0, sp0, hat, hcd, hsp⟩ : ∃ (f0 : Addr) (sp0 : Sp), atI [V.ref f_steps_needed, V.ref f_ring_tells, V.ref f_ring_views, V.ref f_views, V.ref f_alike, V.ref f_distance, V.ref f_groups, V.ref f_tells] (k - 12) = some (.ref f0) ∧ (f0, sp0) ∈ ([(f_longest, spMF K CM 1), (f_longest_rows, spMF K CM 1), (f_full_rings, spMF K CM 1), (f_longest_ring, spMF K CM 1), (f_joined, spMF K CM 1), (f_first_clash, spMF K CM 1), (f_rows_from, spMF K CM 1), (f_sure_from, spMF K CM 1), (f_together, spMF K CM 2), (f_count_rows, spMF K CM 2), (f_steps_needed, spRM K CR CM isRowV 0), (f_views, spRM K CR CM isRowV 0), (f_alike, spRM K CR CM isRowV 0), (f_distance, spRM K CR CM isRowV 0), (f_groups, spRM K CR CM isRowV 0), (f_tells, spRM K CR CM isRowV 0), (f_ring_tells, spRM K CR CM ringOk 0), (f_ring_views, spRM K CR CM ringOk 0), (f_next_letters, spLM K CM CR), (f_farthest, spLM K CM CR), (f_mend, spLM K CM CR), (f_weak_letters, spLM K CM CR)] : List (Addr × Sp)) ∧ ∀ Q, sp0 [.str ab, v] _ Q E := by
                have : k = 12 ∨ k = 13 ∨ k = 14 ∨ k = 15 ∨ k = 16 ∨ k = 17 ∨ k = 18 ∨ k = 19 := by omega
                rcases this with rfl | rfl | rfl | rfl | rfl | rfl | rfl | rfl
                · exact ⟨_, _, rfl, (.tail _ (.tail _ (.tail _ (.tail _ (.tail _ (.tail _ (.tail _ (.tail _ (.tail _ (.tail _ (.head _))))))))))), fun Q => ⟨_, _, [], rfl, rfl, ab_ok, .inr ⟨ab_row, hv, hb, q⟩⟩⟩
                · exact ⟨_, _, rfl, (.tail _ (.tail _ (.tail _ (.tail _ (.tail _ (.tail _ (.tail _ (.tail _ (.tail _ (.tail _ (.tail _ (.tail _ (.tail _ (.tail _ (.tail _ (.tail _ (.head _))))))))))))))))), fun Q => ⟨_, _, [], rfl, rfl, ab_ok, .inr ⟨ab_ring, hv, hb, q⟩⟩⟩
                · exact ⟨_, _, rfl, (.tail _ (.tail _ (.tail _ (.tail _ (.tail _ (.tail _ (.tail _ (.tail _ (.tail _ (.tail _ (.tail _ (.tail _ (.tail _ (.tail _ (.tail _ (.tail _ (.tail _ (.head _)))))))))))))))))), fun Q => ⟨_, _, [], rfl, rfl, ab_ok, .inr ⟨ab_ring, hv, hb, q⟩⟩⟩
                · exact ⟨_, _, rfl, (.tail _ (.tail _ (.tail _ (.tail _ (.tail _ (.tail _ (.tail _ (.tail _ (.tail _ (.tail _ (.tail _ (.head _)))))))))))), fun Q => ⟨_, _, [], rfl, rfl, ab_ok, .inr ⟨ab_row, hv, hb, q⟩⟩⟩
                · exact ⟨_, _, rfl, (.tail _ (.tail _ (.tail _ (.tail _ (.tail _ (.tail _ (.tail _ (.tail _ (.tail _ (.tail _ (.tail _ (.tail _ (.head _))))))))))))), fun Q => ⟨_, _, [], rfl, rfl, ab_ok, .inr ⟨ab_row, hv, hb, q⟩⟩⟩
                · exact ⟨_, _, rfl, (.tail _ (.tail _ (.tail _ (.tail _ (.tail _ (.tail _ (.tail _ (.tail _ (.tail _ (.tail _ (.tail _ (.tail _ (.tail _ (.head _)))))))))))))), fun Q => ⟨_, _, [], rfl, rfl, ab_ok, .inr ⟨ab_row, hv, hb, q⟩⟩⟩
                · exact ⟨_, _, rfl, (.tail _ (.tail _ (.tail _ (.tail _ (.tail _ (.tail _ (.tail _ (.tail _ (.tail _ (.tail _ (.tail _ (.tail _ (.tail _ (.tail _ (.head _))))))))))))))), fun Q => ⟨_, _, [], rfl, rfl, ab_ok, .inr ⟨ab_row, hv, hb, q⟩⟩⟩
                · exact ⟨_, _, rfl, (.tail _ (.tail _ (.tail _ (.tail _ (.tail _ (.tail _ (.tail _ (.tail _ (.tail _ (.tail _ (.tail _ (.tail _ (.tail _ (.tail _ (.tail _ (.head _)))))))))))))))), fun Q => ⟨_, _, [], rfl, rfl, ab_ok, .inr ⟨ab_row, hv, hb, q⟩⟩⟩
              exact ⟨_, rfl, _, rfl, _, _, rfl, rfl, L, _, (k - 12), .ref f0, rfl, rfl, sq_of upd_same, hat, f0, sp0, rfl, hcd, _, rfl, hsp _⟩
            · have hk4 := of_decide_eq_false hk
              have ez := ez.trans e5
              refine s_if (b := decide (V.int k = V.int 20)) (et_test (ev_op (ev_var rfl) ev_c (rv_eq rfl))) (fun hk H6 e6 => ?_) (fun hk H6 e6 => ?_)
              · have hk : k = 20 := by have := of_decide_eq_true hk; injection this
                have e0 := ez.trans e6
                refine ⟨_, rfl, fun x dx nx ndx hne => ?_⟩
                have en := (Ex.new (o := .own x) ndx).trans (Ex.new (o := .ins CK dx []) (by rw [upd_ne (Ne.symm hne)]; exact nx))
                exact ⟨x, _, v, rfl, ab_ok, .inr ⟨ab_row, (hv.ex e0).ex en, hb, fun H' e' => q H' ((e0.trans en).trans e')⟩⟩
              · have hk5 : k ≠ 20 := fun z => by rw [z] at hk; simp at hk
                have ez := ez.trans e6
                refine s_if (b := decide (k < 25)) (et_test (ev_op (ev_var rfl) ev_c rv_I0)) (fun hk H7 e7 => ?_) (fun hk H7 e7 => ?_)
                · have hk := of_decide_eq_true hk
                  have e0 := ez.trans e7
                  refine ⟨by show 4 ≤ sizeLine; decide, fun L nL => ?_⟩
                  have eL := e0.trans (Ex.new (o := .lst [V.ref f_next_letters, V.ref f_farthest, V.ref f_mend, V.ref f_weak_letters]) nL)
                  have hv := hv.ex eL
                  have q := fun H' e' => q H' (eL.trans e')
                  obtain ⟨f0, sp0, hat, hcd, hsp⟩ : ∃ (f0 : Addr) (sp0 : Sp), atI [V.ref f_next_letters, V.ref f_farthest, V.ref f_mend, V.ref f_weak_letters] (k - 21) = some (.ref f0) ∧ (f0, sp0) ∈ ([(f_longest, spMF K CM 1), (f_longest_rows, spMF K CM 1), (f_full_rings, spMF K CM 1), (f_longest_ring, spMF K CM 1), (f_joined, spMF K CM 1), (f_first_clash, spMF K CM 1), (f_rows_from, spMF K CM 1), (f_sure_from, spMF K CM 1), (f_together, spMF K CM 2), (f_count_rows, spMF K CM 2), (f_steps_needed, spRM K CR CM isRowV 0), (f_views, spRM K CR CM isRowV 0), (f_alike, spRM K CR CM isRowV 0), (f_distance, spRM K CR CM isRowV 0), (f_groups, spRM K CR CM isRowV 0), (f_tells, spRM K CR CM isRowV 0), (f_ring_tells, spRM K CR CM ringOk 0), (f_ring_views, spRM K CR CM ringOk 0), (f_next_letters, spLM K CM CR), (f_farthest, spLM K CM CR), (f_mend, spLM K CM CR), (f_weak_letters, spLM K CM CR)] : List (Addr × Sp)) ∧ ∀ Q, sp0 [.non, v, .non] _ Q E := by
                    have : k = 21 ∨ k = 22 ∨ k = 23 ∨ k = 24 := by omega
                    rcases this with rfl | rfl | rfl | rfl
                    · exact ⟨_, _, rfl, (.tail _ (.tail _ (.tail _ (.tail _ (.tail _ (.tail _ (.tail _ (.tail _ (.tail _ (.tail _ (.tail _ (.tail _ (.tail _ (.tail _ (.tail _ (.tail _ (.tail _ (.tail _ (.head _))))))))))))))))))), fun Q => ⟨_, _, _, rfl, .inl ⟨hv, hb, q⟩⟩⟩
                    · exact ⟨_, _, rfl, (.tail _ (.tail _ (.tail _ (.tail _ (.tail _ (.tail _ (.tail _ (.tail _ (.tail _ (.tail _ (.tail _ (.tail _ (.tail _ (.tail _ (.tail _ (.tail _ (.tail _ (.tail _ (.tail _ (.head _)))))))))))))))))))), fun Q => ⟨_, _, _, rfl, .inl ⟨hv, hb, q⟩⟩⟩
                    · exact ⟨_, _, rfl, (.tail _ (.tail _ (.tail _ (.tail _ (.tail _ (.tail _ (.tail _ (.tail _ (.tail _ (.tail _ (.tail _ (.tail _ (.tail _ (.tail _ (.tail _ (.tail _ (.tail _ (.tail _ (.tail _ (.tail _ (.head _))))))))))))))))))))), fun Q => ⟨_, _, _, rfl, .inl ⟨hv, hb, q⟩⟩⟩
                    · exact ⟨_, _, rfl, (.tail _ (.tail _ (.tail _ (.tail _ (.tail _ (.tail _ (.tail _ (.tail _ (.tail _ (.tail _ (.tail _ (.tail _ (.tail _ (.tail _ (.tail _ (.tail _ (.tail _ (.tail _ (.tail _ (.tail _ (.tail _ (.head _)))))))))))))))))))))), fun Q => ⟨_, _, _, rfl, .inl ⟨hv, hb, q⟩⟩⟩
                  exact ⟨_, rfl, _, _, rfl, rfl, L, _, (k - 21), .ref f0, rfl, rfl, sq_of upd_same, hat, f0, sp0, rfl, hcd, _, rfl, hsp _⟩
                · have hk6 := of_decide_eq_false hk
                  have ez := ez.trans e7
                  refine s_if (b := decide (V.int k = V.int 25)) (et_test (ev_op (ev_var rfl) ev_c (rv_eq rfl))) (fun hk H8 e8 => ?_) (fun hk H8 e8 => ?_)
                  · have hk : k = 25 := by have := of_decide_eq_true hk; injection this
                    have e0 := ez.trans e8
                    exact ⟨_, rfl, _, v, [.non], rfl, rfl, ab_ok, .inr ⟨ab_row, hv.ex e0, hb, fun H' e' => q H' (e0.trans e')⟩⟩
                  · have hk7 : k ≠ 25 := fun z => by rw [z] at hk; simp at hk
                    have ez := ez.trans e8
                    refine s_if (b := decide (V.int k = V.int 26)) (et_test (ev_op (ev_var rfl) ev_c (rv_eq rfl))) (fun hk H9 e9 => ?_) (fun hk H9 e9 => ?_)
                    · have hk : k = 26 := by have := of_decide_eq_true hk; injection this
                      have e0 := ez.trans e9
                      exact ⟨_, rfl, _, v, [.non, .non], rfl, rfl, ab_ok, .inr ⟨ab_row, hv.ex e0, hb, fun H' e' => q H' (e0.trans e')⟩⟩
                    · have hk8 : k ≠ 26 := fun z => by rw [z] at hk; simp at hk
                      have ez := ez.trans e9
                      have e0 := ez
                      exact ⟨_, rfl, _, v, [.non, .non], rfl, rfl, ab_ok, .inr ⟨ab_row, hv.ex e0, hb, fun H' e' => q H' (e0.trans e')⟩⟩
theorem ok_law_rowed (e : Ent K mg "_law_rowed" s__law_rowed p__law_rowed) (T : Top K mg CM CR CV CG fG CK fK a_SMALL_WIDTH a_SMALL_SEEN) (c1 : Cal P w K mg base (L2.CX P w) 6 "steps_needed" p_steps_needed (spRM K CR CM isRowV 0)) (c2 : Cal P w K mg base (L2.CX P w) 5 "views" p_views (spRM K CR CM isRowV 0)) (c3 : Cal P w K mg base (L2.CX P w) 6 "alike" p_alike (spRM K CR CM isRowV 0)) (c4 : Cal P w K mg base (L2.CX P w) 6 "distance" p_distance (spRM K CR CM isRowV 0)) (c5 : Cal P w K mg base (L2.CX P w) 6 "groups" p_groups (spRM K CR CM isRowV 0)) (c6 : Cal P w K mg base (L2.CX P w) 6 "tells" p_tells (spRM K CR CM isRowV 0)) (c7 : Cal P w K mg base (L2.CX P w) 6 "ring_tells" p_ring_tells (spRM K CR CM ringOk 0)) (c8 : Cal P w K mg base (L2.CX P w) 5 "ring_views" p_ring_views (spRM K CR CM ringOk 0)) (c9 : Cal P w K mg base (L2.CX P w) 7 "next_letters" p_next_letters (spLM K CM CR)) (c10 : Cal P w K mg base (L2.CX P w) 9 "farthest" p_farthest (spLM K CM CR)) (c11 : Cal P w K mg base (L2.CX P w) 8 "mend" p_mend (spLM K CM CR)) (c12 : Cal P w K mg base (L2.CX P w) 7 "weak_letters" p_weak_letters (spLM K CM CR)) (c13 : Cal P w K mg base (L2.CX P w) 4 "write" p_write (spWr K CM CR)) (c14 : Cal P w K mg base (L2.CX P w) 7 "find" p_find (spRM K CR CM isRowV 1)) (c15 : Cal P w K mg base (L2.CX P w) 6 "near" p_near (spRM K CR CM isRowV 2)) (c16 : Cal P w K mg base (L2.CX P w) 7 "stands" p_stands (spRM K CR CM isRowV 2)) (c17 : Cal P w K mg base (L2.CX P w) 7 "least_masks" p_least_masks (spRF K CR 1))
    (i1 : ∃ fd, FnOk P w K mg base (L2.CX P w) (5 + 1) fK fd p_Tracker___init__ (spTX K CR CM) ∧ L2.Binds K fd p_Tracker___init__ []) : Cal P w K mg base (L2.CX P w) 10 "_law_rowed" p__law_rowed (spRk K CR) := by
  obtain ⟨f, fd, F, m_, b_⟩ := e
  obtain ⟨f_steps_needed, fd_steps_needed, G_steps_needed, m_steps_needed, k_steps_needed, b_steps_needed⟩ := c1
  obtain ⟨f_views, fd_views, G_views, m_views, k_views, b_views⟩ := c2
  obtain ⟨f_alike, fd_alike, G_alike, m_alike, k_alike, b_alike⟩ := c3
  obtain ⟨f_distance, fd_distance, G_distance, m_distance, k_distance, b_distance⟩ := c4
  obtain ⟨f_groups, fd_groups, G_groups, m_groups, k_groups, b_groups⟩ := c5
  obtain ⟨f_tells, fd_tells, G_tells, m_tells, k_tells, b_tells⟩ := c6
  obtain ⟨f_ring_tells, fd_ring_tells, G_ring_tells, m_ring_tells, k_ring_tells, b_ring_tells⟩ := c7
  obtain ⟨f_ring_views, fd_ring_views, G_ring_views, m_ring_views, k_ring_views, b_ring_views⟩ := c8
  obtain ⟨f_next_letters, fd_next_letters, G_next_letters, m_next_letters, k_next_letters, b_next_letters⟩ := c9
  obtain ⟨f_farthest, fd_farthest, G_farthest, m_farthest, k_farthest, b_farthest⟩ := c10
  obtain ⟨f_mend, fd_mend, G_mend, m_mend, k_mend, b_mend⟩ := c11
  obtain ⟨f_weak_letters, fd_weak_letters, G_weak_letters, m_weak_letters, k_weak_letters, b_weak_letters⟩ := c12
  obtain ⟨f_write, fd_write, G_write, m_write, k_write, b_write⟩ := c13
  obtain ⟨f_find, fd_find, G_find, m_find, k_find, b_find⟩ := c14
  obtain ⟨f_near, fd_near, G_near, m_near, k_near, b_near⟩ := c15
  obtain ⟨f_stands, fd_stands, G_stands, m_stands, k_stands, b_stands⟩ := c16
  obtain ⟨f_least_masks, fd_least_masks, G_least_masks, m_least_masks, k_least_masks, b_least_masks⟩ := c17
  obtain ⟨fd_Tracker_init, G_Tracker_init, b_Tracker_init⟩ := i1
  have M_Tracker := T.c_Tracker.mks
  have mc_Tracker := T.c_Tracker.m
  have hC : ∀ f sp, (f, sp) ∈ ([(f_steps_needed, spRM K CR CM isRowV 0), (f_views, spRM K CR CM isRowV 0), (f_alike, spRM K CR CM isRowV 0), (f_distance, spRM K CR CM isRowV 0), (f_groups, spRM K CR CM isRowV 0), (f_tells, spRM K CR CM isRowV 0), (f_ring_tells, spRM K CR CM ringOk 0), (f_ring_views, spRM K CR CM ringOk 0), (f_next_letters, spLM K CM CR), (f_farthest, spLM K CM CR), (f_mend, spLM K CM CR), (f_weak_letters, spLM K CM CR)] : List (Addr × Sp)) → PySem.W.keepIn K (.ref f) = true ∧ ∃ k fd ps, k ≤ 9 ∧ FnOk P w K mg base (L2.CX P w) k f fd ps sp ∧ L2.Binds K fd ps [] := by
    intro f sp h
    simp only [List.mem_cons, Prod.mk.injEq, List.not_mem_nil, or_false] at h
    rcases h with ⟨rfl, rfl⟩ | ⟨rfl, rfl⟩ | ⟨rfl, rfl⟩ | ⟨rfl, rfl⟩ | ⟨rfl, rfl⟩ | ⟨rfl, rfl⟩ | ⟨rfl, rfl⟩ | ⟨rfl, rfl⟩ | ⟨rfl, rfl⟩ | ⟨rfl, rfl⟩ | ⟨rfl, rfl⟩ | ⟨rfl, rfl⟩
    · exact ⟨k_steps_needed, _, _, _, by decide, G_steps_needed, b_steps_needed⟩
    · exact ⟨k_views, _, _, _, by decide, G_views, b_views⟩
    · exact ⟨k_alike, _, _, _, by decide, G_alike, b_alike⟩
    · exact ⟨k_distance, _, _, _, by decide, G_distance, b_distance⟩
    · exact ⟨k_groups, _, _, _, by decide, G_groups, b_groups⟩
    · exact ⟨k_tells, _, _, _, by decide, G_tells, b_tells⟩
    · exact ⟨k_ring_tells, _, _, _, by decide, G_ring_tells, b_ring_tells⟩
    · exact ⟨k_ring_views, _, _, _, by decide, G_ring_views, b_ring_views⟩
    · exact ⟨k_next_letters, _, _, _, by decide, G_next_letters, b_next_letters⟩
    · exact ⟨k_farthest, _, _, _, by decide, G_farthest, b_farthest⟩
    · exact ⟨k_mend, _, _, _, by decide, G_mend, b_mend⟩
    · exact ⟨k_weak_letters, _, _, _, by decide, G_weak_letters, b_weak_letters⟩
  refine ⟨f, fd, F.okX sc__law_rowed (fun vs H Q E h => ?_) (fun cdv A outer s H vs Q E hr h => ?_), m_, F.kp, b_⟩
  · obtain ⟨k, v, rfl, _⟩ := h
    rfl
  · obtain ⟨k, v, rfl, k0, k18, hv, hb, q⟩ := h
    refine ⟨_, (pss_one (ps_if (pt_cmpR op_lt (pv 0) pe_int (nomark _)) (pss_cons (ps_set (i := 2) sc__law_rowed.nd rfl (Or.inl rfl) (pe_lst (pa_cons (pe_glob (v := .ref f_steps_needed) (by rfl) m_steps_needed rfl) (pa_cons (pe_glob (v := .ref f_ring_tells) (by rfl) m_ring_tells rfl) (pa_cons (pe_glob (v := .ref f_ring_views) (by rfl) m_ring_views rfl) (pa_cons (pe_glob (v := .ref f_views) (by rfl) m_views rfl) (pa_cons (pe_glob (v := .ref f_alike) (by rfl) m_alike rfl) (pa_cons (pe_glob (v := .ref f_distance) (by rfl) m_distance rfl) (pa_cons (pe_glob (v := .ref f_groups) (by rfl) m_groups rfl) (pa_cons (pe_glob (v := .ref f_tells) (by rfl) m_tells rfl) (pa_cons (pe_glob (v := .ref f_views) (by rfl) m_views rfl) pa_nil)))))))))))
      (pss_one (ps_expr (pe_callES (hr.mono (by decide)) (pe_ix ix_list (pv 2) (pv 0) (fun _ _ => rfl)) hC (fun σ => passAt (takes_of rfl rfl rfl rfl) σ) (pa_cons (pv 1) (pa_cons pe_non pa_nil)))))) (pss_one (ps_if (pt_cmpR op_eq (pv 0) pe_int (nomark _)) (pss_one (ps_expr (pe_call G_find (hr.mono (by decide)) (by rfl) m_find k_find b_find .nil (passes_call (takes_of rfl rfl rfl rfl) (fun _ _ _ _ h => h)) (pa_cons (pv 1) (pa_cons pe_non (pa_cons pe_non pa_nil)))))) (pss_one (ps_if (pt_cmpR op_eq (pv 0) pe_int (nomark _)) (pss_one (ps_expr (pe_call G_near (hr.mono (by decide)) (by rfl) m_near k_near b_near .nil (passes_call (takes_of rfl rfl rfl rfl) (fun _ _ _ _ h => h)) (pa_cons (pv 1) (pa_cons pe_non (pa_cons pe_non (pa_cons pe_non pa_nil))))))) (pss_one (ps_if (pt_cmpR op_eq (pv 0) pe_int (nomark _)) (pss_one (ps_expr (pe_call G_stands (hr.mono (by decide)) (by rfl) m_stands k_stands b_stands .nil (passes_call (takes_of rfl rfl rfl rfl) (fun _ _ _ _ h => h)) (pa_cons (pv 1) (pa_cons pe_non (pa_cons pe_non (pa_cons pe_non pa_nil))))))) (pss_one (ps_if (pt_cmpR op_eq (pv 0) pe_int (nomark _)) (pss_one (ps_expr (pe_call G_write (hr.mono (by decide)) (by rfl) m_write k_write b_write .nil (passes_call (takes_of rfl rfl rfl rfl) (fun _ _ _ _ h => h)) (pa_cons pe_str (pa_cons (pv 1) pa_nil))))) (pss_one (ps_if (pt_cmpR op_eq (pv 0) pe_int (nomark _)) (pss_one (ps_expr (pe_call G_least_masks (hr.mono (by decide)) (by rfl) m_least_masks k_least_masks b_least_masks .nil (passes_call (takes_of rfl rfl rfl rfl) (fun _ _ _ _ h => h)) (pa_cons (pv 1) (pa_cons pe_non pa_nil))))) (pss_one (ps_if (pt_cmpR op_eq (pv 0) pe_int (nomark _)) (pss_one (ps_expr (pe_make M_Tracker G_Tracker_init (hr.mono (by decide)) (by rfl) mc_Tracker b_Tracker_init .nil (passes_call (takes_of rfl rfl rfl rfl) (fun _ _ _ _ h => h)) (pa_cons (pv 1) (pa_cons pe_non pa_nil))))) (pss_one (ps_expr (pe_callES (hr.mono (by decide)) (pe_ix ix_list (pe_lst (pa_cons (pe_glob (v := .ref f_next_letters) (by rfl) m_next_letters rfl) (pa_cons (pe_glob (v := .ref f_farthest) (by rfl) m_farthest rfl) (pa_cons (pe_glob (v := .ref f_mend) (by rfl) m_mend rfl) (pa_cons (pe_glob (v := .ref f_weak_letters) (by rfl) m_weak_letters rfl) pa_nil))))) (pe_op op_sub (pv 0) pe_int) (fun _ _ => rfl)) hC (fun σ => passAt (takes_of rfl rfl rfl rfl) σ) (pa_cons (pv 1) (pa_cons pe_str (pa_cons pe_int pa_nil)))))))))))))))))))), ?_⟩
    refine s_if (b := decide (k < 9)) (et_test (ev_op (ev_var rfl) ev_c rv_I0)) (fun hk H1 e1 => ?_) (fun hk H1 e1 => ?_)
    · have hk := of_decide_eq_true hk
      have e0 := e1
      refine ⟨by show 9 ≤ sizeLine; decide, fun L nL => ?_⟩
      have eL := e0.trans (Ex.new (o := .lst [V.ref f_steps_needed, V.ref f_ring_tells, V.ref f_ring_views, V.ref f_views, V.ref f_alike, V.ref f_distance, V.ref f_groups, V.ref f_tells, V.ref f_views]) nL)
      have hv := hv.ex eL
      have q := fun H' e' => q H' (eL.trans e')
      obtain ⟨f0, sp0, hat, hcd, hsp⟩ : ∃ (f0 : Addr) (sp0 : Sp), atI [V.ref f_steps_needed, V.ref f_ring_tells, V.ref f_ring_views, V.ref f_views, V.ref f_alike, V.ref f_distance, V.ref f_groups, V.ref f_tells, V.ref f_views] k = some (.ref f0) ∧ (f0, sp0) ∈ ([(f_steps_needed, spRM K CR CM isRowV 0), (f_views, spRM K CR CM isRowV 0), (f_alike, spRM K CR CM isRowV 0), (f_distance, spRM K CR CM isRowV 0), (f_groups, spRM K CR CM isRowV 0), (f_tells, spRM K CR CM isRowV 0), (f_ring_tells, spRM K CR CM ringOk 0), (f_ring_views, spRM K CR CM ringOk 0), (f_next_letters, spLM K CM CR), (f_farthest, spLM K CM CR), (f_mend, spLM K CM CR), (f_weak_letters, spLM K CM CR)] : List (Addr × Sp)) ∧ ∀ Q, sp0 [v, .non] _ Q E := by
        have : k = 0 ∨ k = 1 ∨ k = 2 ∨ k = 3 ∨ k = 4 ∨ k = 5 ∨ k = 6 ∨ k = 7 ∨ k = 8 := by omega
        rcases this with rfl | rfl | rfl | rfl | rfl | rfl | rfl | rfl | rfl
        · exact ⟨_, _, rfl, (.head _), fun Q => ⟨_, _, [], rfl, rfl, hv, .inl ⟨hb.resolve_right fun z => by omega, q⟩⟩⟩
        · exact ⟨_, _, rfl, (.tail _ (.tail _ (.tail _ (.tail _ (.tail _ (.tail _ (.head _))))))), fun Q => ⟨_, _, [], rfl, rfl, hv, .inl ⟨hb.elim ring_bad fun z => z.2, q⟩⟩⟩
        · exact ⟨_, _, rfl, (.tail _ (.tail _ (.tail _ (.tail _ (.tail _ (.tail _ (.tail _ (.head _)))))))), fun Q => ⟨_, _, [], rfl, rfl, hv, .inl ⟨hb.elim ring_bad fun z => z.2, q⟩⟩⟩
        · exact ⟨_, _, rfl, (.tail _ (.head _)), fun Q => ⟨_, _, [], rfl, rfl, hv, .inl ⟨hb.resolve_right fun z => by omega, q⟩⟩⟩
        · exact ⟨_, _, rfl, (.tail _ (.tail _ (.head _))), fun Q => ⟨_, _, [], rfl, rfl, hv, .inl ⟨hb.resolve_right fun z => by omega, q⟩⟩⟩
        · exact ⟨_, _, rfl, (.tail _ (.tail _ (.tail _ (.head _)))), fun Q => ⟨_, _, [], rfl, rfl, hv, .inl ⟨hb.resolve_right fun z => by omega, q⟩⟩⟩
        · exact ⟨_, _, rfl, (.tail _ (.tail _ (.tail _ (.tail _ (.head _))))), fun Q => ⟨_, _, [], rfl, rfl, hv, .inl ⟨hb.resolve_right fun z => by omega, q⟩⟩⟩
        · exact ⟨_, _, rfl, (.tail _ (.tail _ (.tail _ (.tail _ (.tail _ (.head _)))))), fun Q => ⟨_, _, [], rfl, rfl, hv, .inl ⟨hb.resolve_right fun z => by omega, q⟩⟩⟩
        · exact ⟨_, _, rfl, (.tail _ (.head _)), fun Q => ⟨_, _, [], rfl, rfl, hv, .inl ⟨hb.resolve_right fun z => by omega, q⟩⟩⟩
      exact ⟨_, rfl, _, rfl, L, _, k, .ref f0, rfl, rfl, sq_of upd_same, hat, f0, sp0, rfl, hcd, _, rfl, hsp _⟩
    · have hk0 := of_decide_eq_false hk
      have ez := e1
      refine s_if (b := decide (V.int k = V.int 9)) (et_test (ev_op (ev_var rfl) ev_c (rv_eq rfl))) (fun hk H2 e2 => ?_) (fun hk H2 e2 => ?_)
      · have hk : k = 9 := by have := of_decide_eq_true hk; injection this
        have e0 := ez.trans e2
        exact ⟨_, rfl, v, _, [.non], rfl, rfl, hv.ex e0, .inl ⟨(hb.resolve_right fun z => by omega), fun H' e' => q H' (e0.trans e')⟩⟩
      · have hk1 : k ≠ 9 := fun z => by rw [z] at hk; simp at hk
        have ez := ez.trans e2
        refine s_if (b := decide (V.int k = V.int 10)) (et_test (ev_op (ev_var rfl) ev_c (rv_eq rfl))) (fun hk H3 e3 => ?_) (fun hk H3 e3 => ?_)
        · have hk : k = 10 := by have := of_decide_eq_true hk; injection this
          have e0 := ez.trans e3
          exact ⟨_, rfl, v, _, [.non, .non], rfl, rfl, hv.ex e0, .inl ⟨(hb.resolve_right fun z => by omega), fun H' e' => q H' (e0.trans e')⟩⟩
        · have hk2 : k ≠ 10 := fun z => by rw [z] at hk; simp at hk
          have ez := ez.trans e3
          refine s_if (b := decide (V.int k = V.int 11)) (et_test (ev_op (ev_var rfl) ev_c (rv_eq rfl))) (fun hk H4 e4 => ?_) (fun hk H4 e4 => ?_)
          · have hk : k = 11 := by have := of_decide_eq_true hk; injection this
            have e0 := ez.trans e4
            exact ⟨_, rfl, v, _, [.non, .non], rfl, rfl, hv.ex e0, .inl ⟨(hb.resolve_right fun z => by omega), fun H' e' => q H' (e0.trans e')⟩⟩
          · have hk3 : k ≠ 11 := fun z => by rw [z] at hk; simp at hk
            have ez := ez.trans e4
            refine s_if (b := decide (V.int k = V.int 12)) (et_test (ev_op (ev_var rfl) ev_c (rv_eq rfl))) (fun hk H5 e5 => ?_) (fun hk H5 e5 => ?_)
            · have hk : k = 12 := by have := of_decide_eq_true hk; injection this
              have e0 := ez.trans e5
              exact ⟨_, rfl, _, v, rfl, .inr ⟨rfl, hv.ex e0, (hb.resolve_right fun z => by omega), fun H' e' => q H' (e0.trans e')⟩⟩
            · have hk4 : k ≠ 12 := fun z => by rw [z] at hk; simp at hk
              have ez := ez.trans e5
              refine s_if (b := decide (V.int k = V.int 13)) (et_test (ev_op (ev_var rfl) ev_c (rv_eq rfl))) (fun hk H6 e6 => ?_) (fun hk H6 e6 => ?_)
              · have hk : k = 13 := by have := of_decide_eq_true hk; injection this
                have e0 := ez.trans e6
                exact ⟨_, rfl, v, [.non], rfl, rfl, hv.ex e0, (hb.resolve_right fun z => by omega), fun H' e' => q H' (e0.trans e')⟩
              · have hk5 : k ≠ 13 := fun z => by rw [z] at hk; simp at hk
                have ez := ez.trans e6
                refine s_if (b := decide (V.int k = V.int 18)) (et_test (ev_op (ev_var rfl) ev_c (rv_eq rfl))) (fun hk H7 e7 => ?_) (fun hk H7 e7 => ?_)
                · have hk : k = 18 := by have := of_decide_eq_true hk; injection this
                  have e0 := ez.trans e7
                  refine ⟨_, rfl, fun x dx nx ndx hne => ?_⟩
                  have en := (Ex.new (o := .own x) ndx).trans (Ex.new (o := .ins CK dx []) (by rw [upd_ne (Ne.symm hne)]; exact nx))
                  exact ⟨x, v, _, rfl, (hv.ex e0).ex en, .inl ⟨(hb.resolve_right fun z => by omega), fun H' e' => q H' ((e0.trans en).trans e')⟩⟩
                · have hk6 : k ≠ 18 := fun z => by rw [z] at hk; simp at hk
                  have ez := ez.trans e7
                  have e0 := ez
                  refine ⟨by show 4 ≤ sizeLine; decide, fun L nL => ?_⟩
                  have eL := e0.trans (Ex.new (o := .lst [V.ref f_next_letters, V.ref f_farthest, V.ref f_mend, V.ref f_weak_letters]) nL)
                  have hv := hv.ex eL
                  have q := fun H' e' => q H' (eL.trans e')
                  obtain ⟨f0, sp0, hat, hcd, hsp⟩ : ∃ (f0 : Addr) (sp0 : Sp), atI [V.ref f_next_letters, V.ref f_farthest, V.ref f_mend, V.ref f_weak_letters] (k - 14) = some (.ref f0) ∧ (f0, sp0) ∈ ([(f_steps_needed, spRM K CR CM isRowV 0), (f_views, spRM K CR CM isRowV 0), (f_alike, spRM K CR CM isRowV 0), (f_distance, spRM K CR CM isRowV 0), (f_groups, spRM K CR CM isRowV 0), (f_tells, spRM K CR CM isRowV 0), (f_ring_tells, spRM K CR CM ringOk 0), (f_ring_views, spRM K CR CM ringOk 0), (f_next_letters, spLM K CM CR), (f_farthest, spLM K CM CR), (f_mend, spLM K CM CR), (f_weak_letters, spLM K CM CR)] : List (Addr × Sp)) ∧ ∀ Q, sp0 [v, .str x1, .int 4] _ Q E := by
                    have : k = 14 ∨ k = 15 ∨ k = 16 ∨ k = 17 := by omega
                    rcases this with rfl | rfl | rfl | rfl
                    · exact ⟨_, _, rfl, (.tail _ (.tail _ (.tail _ (.tail _ (.tail _ (.tail _ (.tail _ (.tail _ (.head _))))))))), fun Q => ⟨_, _, _, rfl, .inr ⟨rfl, rfl, hv, hb.resolve_right fun z => by omega, q⟩⟩⟩
                    · exact ⟨_, _, rfl, (.tail _ (.tail _ (.tail _ (.tail _ (.tail _ (.tail _ (.tail _ (.tail _ (.tail _ (.head _)))))))))), fun Q => ⟨_, _, _, rfl, .inr ⟨rfl, rfl, hv, hb.resolve_right fun z => by omega, q⟩⟩⟩
                    · exact ⟨_, _, rfl, (.tail _ (.tail _ (.tail _ (.tail _ (.tail _ (.tail _ (.tail _ (.tail _ (.tail _ (.tail _ (.head _))))))))))), fun Q => ⟨_, _, _, rfl, .inr ⟨rfl, rfl, hv, hb.resolve_right fun z => by omega, q⟩⟩⟩
                    · exact ⟨_, _, rfl, (.tail _ (.tail _ (.tail _ (.tail _ (.tail _ (.tail _ (.tail _ (.tail _ (.tail _ (.tail _ (.tail _ (.head _)))))))))))), fun Q => ⟨_, _, _, rfl, .inr ⟨rfl, rfl, hv, hb.resolve_right fun z => by omega, q⟩⟩⟩
                  exact ⟨_, rfl, _, _, rfl, rfl, L, _, (k - 14), .ref f0, rfl, rfl, sq_of upd_same, hat, f0, sp0, rfl, hcd, _, rfl, hsp _⟩
end
end K01
namespace K01
open PySem PySem.Spec PyProof.Rows L2 Evl Qt
theorem t_neS {K : PySem.W.Frag} {s : Str} {σ : L2.St} {H : Hp} {Q : VK} (sh : SeqAt.shaped (.str s) = true) (h : ∀ H2, Ex H H2 → Q (.bl false) H2) : tC (.str s) σ H (fun y H2 => rNeD K (.str s) y H2 Q) :=
  rv_ne_same (d := .str s) (fun _ _ => .str _) (fun _ _ => .str _) sh H (Ex.refl _) _ h
def okB : V → Bool
  | .int _ => true
  | .str z => z.cps.toList.all fun c => decide (c < 256)
  | .bl _ => true
  | .non => true
  | _ => false
theorem okB_ok {v : V} (h : okB v = true) : okV v := by
  cases v with
  | str z =>
    intro c hc
    have := List.all_eq_true.mp h c hc
    exact of_decide_eq_true this
  | int i => exact trivial
  | bl b => exact trivial
  | non => exact trivial
  | _ => cases h
theorem okAll {xs : List V} (h : xs.all okB = true) : ∀ v ∈ xs, okV v := fun v hv => okB_ok (List.all_eq_true.mp h v hv)
section
variable {K : PySem.W.Frag} {σ : L2.St} {H : Hp} {te tb : TE} {t u : TT} {tr ta : TA} {sp : Sp} {dvs vs : List V} {E : XK}
theorem xLit {ys : List V} (h : EvA ta σ H ys) (k : ys.all okB = true) (hl : ys.length ≤ 1000) : EvX K (tLst ta) σ H (.list (ys.map datV)) := dx_L (el_lst h (by omega)) (okAll k)
theorem xC {y : V} (k : okB y = true) : EvX K (tC y) σ H (datV y) := dx_ev ev_c (okB_ok k)
end
theorem tp_is {m : Str} {n k : Nat} (a : SmallM m n) (b : TopM m n k) : tp m n = k := top_one (tp_top a) b
theorem str_txt (z : Str) : z = txt z.cps.toList := rfl
theorem t_eqS {K : PySem.W.Frag} {s : Str} {σ : L2.St} {H : Hp} {Q : VK} (sh : SeqAt.shaped (.str s) = true) (h : ∀ H2, Ex H H2 → Q (.bl true) H2) : tC (.str s) σ H (fun y H2 => rEqD K (.str s) y H2 Q) :=
  ev_c H (Ex.refl H) _ fun H2 e2 => eq_same (.str _) (.str _) sh (h H2 e2)
theorem ev_go {te : TE} {σ : L2.St} {H : Hp} {v : V} {Q : VK} (h : Ev te σ H v) (k : ∀ H1, Ex H H1 → Q v H1) : te σ H Q := h H (Ex.refl H) Q k
theorem sm_x2 : SmallM x1 2 := by unfold SmallM x1; decide +kernel
theorem tp_x2 : TopM x1 2 2 := by
  refine ⟨?_, ?_⟩ <;> (unfold x1; decide +kernel)
theorem lots_11 : lotsM 1 1 = [x1.cps.toList] := by
  unfold x1
  decide +kernel
theorem best_11 : bestM 1 1 2 = 2 := by
  unfold bestM
  rw [lots_11]
  simp only [List.map_cons, List.map_nil, ← str_txt]
  rw [tp_is sm_x2 tp_x2]
  decide +kernel
theorem bestL_11 : bestL 1 1 2 = [x1.cps.toList] := by
  unfold bestL
  rw [lots_11, best_11]
  have e : decide (tp (txt x1.cps.toList) 2 = 2) = true := decide_eq_true (tp_is sm_x2 tp_x2)
  rw [List.filter_cons_of_pos (p := fun l => decide (tp (txt l) 2 = 2)) e]
  rfl
theorem ok_low : (tS [x1.cps.toList]).all okB = true := by unfold x1; decide +kernel
def spTold1 (K : PySem.W.Frag) : Sp := fun vs H Q _ => ∃ (k : Int) (v : V), vs = [.int k, v] ∧ VOk K H v ∧
  ((0 ≤ k ∧ k < 28 ∧ isMaskV v = false ∧ RetV (.str (PySem.Str.ofString "mask")) H Q) ∨ (28 ≤ k ∧ k ≤ 46 ∧ (isRowV v = false ∨ ((k = 29 ∨ k = 30) ∧ ringOk v = false)) ∧ RetV (.str (PySem.Str.ofString "row")) H Q))
def spLaw (K : PySem.W.Frag) : Sp := fun vs H Q _ => ∃ (a : Addr) (ns : List Int), vs = [.ref a] ∧ SqL K H a (ns.map V.int) ∧ ns.length ≤ 63 ∧ ∀ H', Q (.bl true) H'
section
variable {P : Program} {w : World} {K : PySem.W.Frag} {mg : Str → Option Value} {base : Heap} {CM CR CV CG fG CK fK a_SMALL_WIDTH a_SMALL_SEEN : Addr}
theorem ok_told1 (e : Ent K mg "_law_told" s__law_told p__law_told) (T : Top K mg CM CR CV CG fG CK fK a_SMALL_WIDTH a_SMALL_SEEN) (c1 : Cal P w K mg base (L2.CX P w) 11 "_law_masked" p__law_masked (spMk K CM)) (c2 : Cal P w K mg base (L2.CX P w) 10 "_law_rowed" p__law_rowed (spRk K CR)) : Cal P w K mg base CX0 12 "_law_told" p__law_told (spTold1 K) := by
  obtain ⟨f, fd, F, m_, b_⟩ := e
  obtain ⟨f__law_masked, fd__law_masked, G__law_masked, m__law_masked, k__law_masked, b__law_masked⟩ := c1
  obtain ⟨f__law_rowed, fd__law_rowed, G__law_rowed, m__law_rowed, k__law_rowed, b__law_rowed⟩ := c2
  refine ⟨f, fd, F.ok sc__law_told (fun vs H Q E h => ?_) (fun cdv A outer s H vs Q E hr h => ?_), m_, F.kp, b_⟩
  · obtain ⟨k, v, rfl, _⟩ := h
    rfl
  · obtain ⟨k, v, rfl, hv, h⟩ := h
    refine ⟨_, (pss_cons (ps_set (i := 2) sc__law_told.nd rfl (Or.inl rfl) pe_non)
      (pss_cons (ps_try_mix rfl rfl sc__law_told.nd takes0 (fun W pn xe tk _ => (pss_one (ps_if (pt_cmpR op_lt (pv 0) pe_int (nomark _)) (pss_one (ps_expr (pe_callS G__law_masked (hr.mono (by decide)) (by rfl) m__law_masked k__law_masked b__law_masked (fun σ => passAt tk σ) (pa_cons (pv 0) (pa_cons (pv 1) pa_nil))))) (pss_one (ps_expr (pe_callS G__law_rowed (hr.mono (by decide)) (by rfl) m__law_rowed k__law_rowed b__law_rowed (fun σ => passAt tk σ) (pa_cons (pe_op op_sub (pv 0) pe_int) (pa_cons (pv 1) pa_nil)))))))) (.plain ⟨rfl, by decide, Or.inl T.e_BadMask.g⟩ (fun a oe cls d pn hz hf => (pss_one (ps_set (i := 2) sc__law_told.nd rfl (Or.inl rfl) pe_str))) (.plain ⟨rfl, by decide, Or.inl T.e_BadRow.g⟩ (fun a oe cls d pn hz hf => (pss_one (ps_set (i := 2) sc__law_told.nd rfl (Or.inl rfl) pe_str))) .nil)))
      (pss_one (ps_ret (pv 2))))), ?_⟩
    refine q_asg (v := .non) ev_c fun H0 e0 => ?_
    refine s_if (b := decide (k < 28)) (et_test (ev_op (ev_var rfl) ev_c rv_I0)) (fun hk H1 e1 => ?_) (fun hk H1 e1 => ?_)
    · have hk := of_decide_eq_true hk
      rcases h with ⟨k0, _, hb, q⟩ | ⟨k28, _⟩
      · exact ⟨_, rfl, _, rfl, k, v, rfl, k0, by omega, (hv.ex e0).ex e1, hb, fun H' e' => ⟨true, T.q_CM_CM, (fun _ x na => ⟨_, rfl, q _ ((e0.trans e1).trans e')⟩), fun z => by cases z⟩⟩
      · omega
    · have hk := of_decide_eq_false hk
      rcases h with ⟨k0, kk, hb, q⟩ | ⟨k28, k46, hb, q⟩
      · omega
      · exact ⟨_, rfl, _, _, rfl, rfl, _, rfl, k - 28, v, rfl, by omega, by omega, (hv.ex e0).ex e1, hb.imp id (fun z => ⟨by omega, z.2⟩), fun H' e' => ⟨false, T.q_CR_CM, (fun z => by cases z), fun _ => ⟨true, T.q_CR_CR, (fun _ x na => ⟨_, rfl, q _ ((e0.trans e1).trans e')⟩), fun z => by cases z⟩⟩⟩
theorem ok_law {f : Addr} {fd : FuncData} (F : Fun K "law" "law" s_law f fd) (T : Top K mg CM CR CV CG fG CK fK a_SMALL_WIDTH a_SMALL_SEEN) (c1 : Cal P w K mg base CX0 1 "_law_taken" p__law_taken (spTaken K)) (c2 : Cal P w K mg base CX0 2 "_law_odd_mask" p__law_odd_mask (spOddV K isMaskV)) (c3 : Cal P w K mg base CX0 2 "_law_odd_row" p__law_odd_row (spOddV K isRowV)) (c4 : Cal P w K mg base CX0 12 "_law_told" p__law_told (spTold1 K)) (c5 : Cal P w K mg base CX0 11 "best_masks" p_best_masks spBest) : FnOk P w K mg base CX0 13 f fd p_law (spLaw K) := by
  obtain ⟨f__law_taken, fd__law_taken, G__law_taken, m__law_taken, k__law_taken, b__law_taken⟩ := c1
  obtain ⟨f__law_odd_mask, fd__law_odd_mask, G__law_odd_mask, m__law_odd_mask, k__law_odd_mask, b__law_odd_mask⟩ := c2
  obtain ⟨f__law_odd_row, fd__law_odd_row, G__law_odd_row, m__law_odd_row, k__law_odd_row, b__law_odd_row⟩ := c3
  obtain ⟨f__law_told, fd__law_told, G__law_told, m__law_told, k__law_told, b__law_told⟩ := c4
  obtain ⟨f_best_masks, fd_best_masks, G_best_masks, m_best_masks, k_best_masks, b_best_masks⟩ := c5
  refine F.ok sc_law (fun vs H Q E h => ?_) (fun cdv A outer s H vs Q E hr h => ?_)
  · obtain ⟨a, ns, rfl, _⟩ := h
    rfl
  · obtain ⟨a, ns, rfl, hS, hlen, q⟩ := h
    refine ⟨_, (pss_cons (ps_set (i := 1) sc_law.nd rfl (Or.inl rfl) (pe_lst (pa_cons (pv 0) (pa_cons pe_int (pa_cons pe_int (pa_cons pe_int pa_nil))))))
      (pss_cons (ps_for PassesOwn.never rfl (pi_range1 (by rfl) T.m_range (pa_cons pe_int pa_nil)) (pg_name (i := 2) sc_law.nd rfl (Or.inl rfl)) (pss_cons (ps_if (pt_cmpR (op_neD hr.units) (pe_call G__law_told (hr.mono (by decide)) (by rfl) m__law_told k__law_told b__law_told .nil pass0 (pa_cons (pe_call G__law_taken (hr.mono (by decide)) (by rfl) m__law_taken k__law_taken b__law_taken .nil pass0 (pa_cons (pv 1) (pa_cons pe_int pa_nil))) (pa_cons (pe_call G__law_odd_mask (hr.mono (by decide)) (by rfl) m__law_odd_mask k__law_odd_mask b__law_odd_mask .nil pass0 (pa_cons (pv 1) pa_nil)) pa_nil))) pe_str (nomark _)) (pss_one (ps_ret pe_bl)) pss_nil)
      (pss_one (ps_if (pt_cmpR (op_neD hr.units) (pe_call G__law_told (hr.mono (by decide)) (by rfl) m__law_told k__law_told b__law_told .nil pass0 (pa_cons (pe_op op_add pe_int (pe_call G__law_taken (hr.mono (by decide)) (by rfl) m__law_taken k__law_taken b__law_taken .nil pass0 (pa_cons (pv 1) (pa_cons pe_int pa_nil)))) (pa_cons (pe_call G__law_odd_row (hr.mono (by decide)) (by rfl) m__law_odd_row k__law_odd_row b__law_odd_row .nil pass0 (pa_cons (pv 1) pa_nil)) pa_nil))) pe_str (nomark _)) (pss_one (ps_ret pe_bl)) pss_nil))))
      (pss_one (ps_ret (pe_and (pe_cmpR (op_eqD hr.units) (pe_call G__law_told (hr.mono (by decide)) (by rfl) m__law_told k__law_told b__law_told .nil pass0 (pa_cons (pe_op op_add (pe_op op_add pe_int pe_int) (pe_call G__law_taken (hr.mono (by decide)) (by rfl) m__law_taken k__law_taken b__law_taken .nil pass0 (pa_cons (pv 1) (pa_cons pe_int pa_nil)))) (pa_cons pe_str pa_nil))) pe_str (nomark _)) (pe_one (pe_cmpR (op_eqD hr.units) (pe_call G_best_masks (hr.mono (by decide)) (by rfl) m_best_masks k_best_masks b_best_masks .nil pass0 (pa_cons pe_int (pa_cons pe_int (pa_cons pe_int pa_nil)))) (pe_tup (pa_cons pe_int (pa_cons (pe_lst (pa_cons pe_str pa_nil)) pa_nil))) (nomark _)))))))), ?_⟩
    refine ⟨_, rfl, by show 4 ≤ sizeLine; decide, fun r nr => ?_⟩
    have R0 : Qt.Row K r a ns (upd H r (.lst [.ref a, .int 0, .int 301, .int 0])) := ⟨0, 301, 0, upd_same, ex_l (Ex.new nr) hS, by omega, by omega, by omega, by omega⟩
    refine q_forR1 (n := 12) (j := 2) (ea_cons ev_c ea_nil) (by omega) (fun i σ H' => Qt.Row K r a ns H' ∧ ∃ x2, σ = [some (.ref a), some (.ref r), x2])
      (fun H1 e1 => ⟨R0.ex e1, _, rfl⟩) (fun i σ' H1 hi hp => ?_) (fun σ' H' hp => ?_)
    · obtain ⟨R1, x2, rfl⟩ := hp
      refine ⟨_, rfl, r, a, ns, 28, rfl, by omega, by omega, R1, fun k H2 k0 k1 X2 R2 => ?_⟩
      refine ⟨_, rfl, r, a, ns, rfl, R2, fun v H3 hv gv X3 R3 => ?_⟩
      refine ⟨k, v, rfl, hv.ok, .inl ⟨by omega, by omega, gv, fun H4 e4 => t_neS (by decide +kernel) fun H5 e5 => ⟨_, rfl, ite2 (fun z => by cases z) (fun _ => ?_)⟩⟩⟩
      have R5 := R3.ex (e4.trans e5)
      dsimp only [tSeq, gName]
      refine ⟨_, rfl, r, a, ns, 19, rfl, by omega, by omega, R5, fun k6 H6 k60 k61 X6 R6 => ⟨_, _, rfl, rfl, ?_⟩⟩
      refine ⟨_, rfl, r, a, ns, rfl, R6, fun v7 H7 hv7 gv7 X7 R7 => ?_⟩
      exact ⟨28 + k6, v7, rfl, hv7.ok, .inr ⟨by omega, by omega, .inl gv7, fun H8 e8 => t_neS (by decide +kernel) fun H9 e9 => ⟨_, rfl, ite2 (fun z => by cases z) (fun _ => ⟨R7.ex (e8.trans e9), _, rfl⟩)⟩⟩⟩
    · obtain ⟨R1, x2, rfl⟩ := hp
      refine ⟨_, _, rfl, rfl, _, rfl, r, a, ns, 2, rfl, by omega, by omega, R1, fun k H2 k0 k1 X2 R2 => ⟨_, _, rfl, rfl, ?_⟩⟩
      refine ⟨28 + 1 + k, _, rfl, .str (by decide +kernel), .inr ⟨by omega, by omega, .inr ⟨by omega, by decide +kernel⟩, fun H4 e4 => t_eqS (by decide +kernel) fun H5 e5 => ⟨true, rfl, iteT ?_⟩⟩⟩
      refine ev_go (ev_eqX (d := .tuple [.int 2, .list [.str x1]]) (fun H6 e6 Q q => (ea_cons ev_c (ea_cons ev_c (ea_cons ev_c ea_nil))) H6 e6 _ fun H7 e7 => ⟨1, 1, 2, rfl, by omega, by omega, by omega, by omega, by decide, by decide, fun p L H8 e8 hL hp => q _ _ (e7.trans e8) (.tup (st_of hp) (.cons (by rw [best_11]; exact .int _) (.cons (.lst (sq_of hL) (by rw [bestL_11]; exact dp_flats (okAll ok_low))) .nil)))⟩)
        (dx_tup (dx_cons (xC (y := .int 2) rfl) (dx_cons (xLit (ys := [.str x1]) (ea_cons ev_c ea_nil) (by decide +kernel) (by decide)) dx_nil)) (show 2 ≤ 1000 by decide)) (by unfold x1; decide +kernel)) fun H6 e6 => q _
end
end K01
namespace K01
open PySem PySem.Spec PyProof.Rows L2 Evl Qt
/-- the def x stands in the written part -/
def DefAt (K : PySem.W.Frag) (x : Str) (st : Stmt) : Prop := ∃ (f : Addr) (oc : Value) (od : Option Addr) (kV dc pm : Value) (an : Option Addr) (cd ct : Value) (sl : Array (Option Value)),
  PySem.W.nsIn K mainGlobals x = some (some (.ref f)) ∧ K.lookup f = some ⟨oc, od, .func (PySem.W.fnOf x x (defArgs st) (defBody st) (defScope st) .none kV dc pm an cd ct), sl⟩ ∧ PySem.W.codeIn K cd x = true ∧ PySem.W.keepIn K (.ref f) = true
theorem DefAt.mk {K : PySem.W.Frag} {x : Str} {st : Stmt} {f : Addr} {oc : Value} {od : Option Addr} {kV dc pm : Value} {an : Option Addr} {cd ct : Value} {sl : Array (Option Value)}
    (a : PySem.W.nsIn K mainGlobals x = some (some (.ref f))) (l : K.lookup f = some ⟨oc, od, .func (PySem.W.fnOf x x (defArgs st) (defBody st) (defScope st) .none kV dc pm an cd ct), sl⟩) (c : PySem.W.codeIn K cd x = true) (k : PySem.W.keepIn K (.ref f) = true) : DefAt K x st :=
  ⟨f, oc, od, kV, dc, pm, an, cd, ct, sl, a, l, c, k⟩
theorem DefAt.ent {K : PySem.W.Frag} {h : Heap} {mg : Str → Option Value} {x : Str} {st : Stmt} {ps : List Str} (D : DefAt K x st) (X : K.In h) (G : h.Ns mainGlobals mg)
    (hb : ∀ (kV doc pm : Value) (an : Option Addr) (cdv ct : Value) (us : List Value), us.length = ps.length → bindArgs (PySem.W.fnOf x x (defArgs st) (defBody st) (defScope st) .none kV doc pm an cdv ct) ⟨us, []⟩ = pure (ps.zip us)) : Ent K mg x st ps := by
  obtain ⟨f, oc, od, kV, dc, pm, an, cd, ct, sl, a, l, c, k⟩ := D
  have F := fun_mk (st := st) l c k
  exact ⟨f, _, F, PySem.W.mg_of X G a, F.binds hb⟩
/-- an error class of the text -/
def ErrAt (K : PySem.W.Frag) (x : Str) (C : Addr) : Prop := PySem.W.nsIn K mainGlobals x = some (some (.ref C)) ∧ PySem.W.excIn K C [.type "ValueError", .type "Exception", .type "BaseException", .type "object"] "ValueError.__new__" = true ∧
  PySem.W.keepIn K (.ref C) = true ∧ PySem.W.subIn K (.ref C) (.type "BaseException") = some true ∧ PySem.W.typeIn K (.ref C) = some (.type "type")
def IntAt (K : PySem.W.Frag) (x : Str) (n : Int) : Prop := ∃ t, PySem.W.nsIn K mainGlobals x = some (some (.int n t))
theorem IntAt.mk {K : PySem.W.Frag} {x : Str} {n : Int} {t : Nat} (h : PySem.W.nsIn K mainGlobals x = some (some (.int n t))) : IntAt K x n := ⟨t, h⟩
def StrAt (K : PySem.W.Frag) (x : Str) (n : Str) : Prop := ∃ t, PySem.W.nsIn K mainGlobals x = some (some (.str n t))
theorem StrAt.mk {K : PySem.W.Frag} {x : Str} {n : Str} {t : Nat} (h : PySem.W.nsIn K mainGlobals x = some (some (.str n t))) : StrAt K x n := ⟨t, h⟩
structure All (K : PySem.W.Frag) (CM CR CV CG fG CK fK a_SMALL_WIDTH a_SMALL_SEEN : Addr) : Prop where
  d_made_of : DefAt K "made_of" s_made_of
  d_is_mask : DefAt K "is_mask" s_is_mask
  d_check_mask : DefAt K "check_mask" s_check_mask
  d_is_row : DefAt K "is_row" s_is_row
  d_check_row : DefAt K "check_row" s_check_row
  d_check_ring : DefAt K "check_ring" s_check_ring
  d_is_number : DefAt K "is_number" s_is_number
  d_check_number : DefAt K "check_number" s_check_number
  d_check_letters : DefAt K "check_letters" s_check_letters
  d_check_great : DefAt K "check_great" s_check_great
  d_check_small : DefAt K "check_small" s_check_small
  d_check_row_in : DefAt K "check_row_in" s_check_row_in
  d_check_lettered : DefAt K "check_lettered" s_check_lettered
  d_seen : DefAt K "seen" s_seen
  d_together : DefAt K "together" s_together
  d_view_at : DefAt K "view_at" s_view_at
  d_others : DefAt K "others" s_others
  d_views : DefAt K "views" s_views
  d_all_unlike : DefAt K "all_unlike" s_all_unlike
  d_tells : DefAt K "tells" s_tells
  d_grouped : DefAt K "grouped" s_grouped
  d_least_pair : DefAt K "least_pair" s_least_pair
  d_groups : DefAt K "groups" s_groups
  d_alike : DefAt K "alike" s_alike
  d_distance : DefAt K "distance" s_distance
  d_stands : DefAt K "stands" s_stands
  d_words : DefAt K "words" s_words
  d_near_bits : DefAt K "near_bits" s_near_bits
  d_window_bits : DefAt K "window_bits" s_window_bits
  d_farthest_rows : DefAtD K "farthest_rows" s_farthest_rows 1
  d_longest_rows : DefAt K "longest_rows" s_longest_rows
  d_longest : DefAt K "longest" s_longest
  d_count_rows : DefAt K "count_rows" s_count_rows
  d_next_letters : DefAt K "next_letters" s_next_letters
  d_farthest : DefAt K "farthest" s_farthest
  d_masks_of : DefAt K "masks_of" s_masks_of
  d_masks_to : DefAt K "masks_to" s_masks_to
  d_best_masks : DefAt K "best_masks" s_best_masks
  d_least_masks : DefAt K "least_masks" s_least_masks
  d_near : DefAt K "near" s_near
  d_find : DefAt K "find" s_find
  d_looks_needed : DefAt K "looks_needed" s_looks_needed
  d_steps_needed : DefAt K "steps_needed" s_steps_needed
  d_put_in_order : DefAt K "put_in_order" s_put_in_order
  d_joined : DefAt K "joined" s_joined
  d_first_clash : DefAt K "first_clash" s_first_clash
  d_rows_from : DefAt K "rows_from" s_rows_from
  d_sure_from : DefAt K "sure_from" s_sure_from
  d_mend : DefAt K "mend" s_mend
  d_weak_letters : DefAt K "weak_letters" s_weak_letters
  d_ring_views : DefAt K "ring_views" s_ring_views
  d_ring_tells : DefAt K "ring_tells" s_ring_tells
  d_longest_ring : DefAt K "longest_ring" s_longest_ring
  d_full_rings : DefAt K "full_rings" s_full_rings
  d_write : DefAt K "write" s_write
  d__law_taken : DefAt K "_law_taken" s__law_taken
  d__law_odd_mask : DefAt K "_law_odd_mask" s__law_odd_mask
  d__law_odd_row : DefAt K "_law_odd_row" s__law_odd_row
  d__law_masked : DefAt K "_law_masked" s__law_masked
  d__law_rowed : DefAt K "_law_rowed" s__law_rowed
  d__law_told : DefAt K "_law_told" s__law_told
  bb : ∀ x ∈ (["isinstance", "str", "int", "bool", "list", "tuple", "dict", "all", "len", "enumerate", "range", "reversed", "zip", "set", "min", "max", "sorted", "sum"] : List Str), PySem.W.nsIn K mainGlobals x = some none
  h_LETTERS : StrAt K "LETTERS" (PySem.Str.ofString "abcd")
  h_UNREAD : StrAt K "UNREAD" (PySem.Str.ofString "?")
  h_WIDEST : IntAt K "WIDEST" 12
  h_LONGEST : IntAt K "LONGEST" 60
  h_MOST_LOOKS : IntAt K "MOST_LOOKS" 60
  h_WIDEST_FOR_A_ROW : IntAt K "WIDEST_FOR_A_ROW" 9
  h_MOST_IN_ANY_ORDER : IntAt K "MOST_IN_ANY_ORDER" 7
  h_LONGEST_TO_MEND : IntAt K "LONGEST_TO_MEND" 8
  k_SMALL_WIDTH : PySem.W.nsIn K mainGlobals "SMALL_WIDTH" = some (some (.ref a_SMALL_WIDTH)) ∧ TabI K a_SMALL_WIDTH [(1, 12), (2, 8), (3, 5), (4, 4)]
  k_SMALL_SEEN : PySem.W.nsIn K mainGlobals "SMALL_SEEN" = some (some (.ref a_SMALL_SEEN)) ∧ TabI K a_SMALL_SEEN [(1, 12), (2, 4), (3, 2), (4, 1)]
  o_Growth : OwnAt K "Growth" CG fG ["signs", "width", "bits"]
  i_Growth : FnAt K fG "__init__" "Growth.__init__" s_Growth___init__
  i_Growth_begun : MethAt K CG "begun" "Growth.begun" s_Growth_begun
  i_Growth_longer : MethAt K CG "longer" "Growth.longer" s_Growth_longer
  o_Tracker : OwnAt K "Tracker" CK fK ["_found", "_row", "_mask", "_looks"]
  i_Tracker : FnAt K fK "__init__" "Tracker.__init__" s_Tracker___init__
  x_BadMask : ErrAt K "BadMask" CM
  x_BadRow : ErrAt K "BadRow" CR
  x_BadView : ErrAt K "BadView" CV
  q_CM_CM : PySem.W.exmOne K (.ref CM) (.ref CM) = some true
  q_CR_CM : PySem.W.exmOne K (.ref CR) (.ref CM) = some false
  q_CR_CR : PySem.W.exmOne K (.ref CR) (.ref CR) = some true
theorem all_mk {l : PySem.W.OpenLaw} {w : World} {K : PySem.W.Frag} {h : Heap} {mg : Str → Option Value} {fa f CM CR CV CG fG CK fK a_SMALL_WIDTH a_SMALL_SEEN : Addr} (X : K.In h) (G : h.Ns mainGlobals mg) (hfa : mg "law" = some (.ref fa)) (A : All K CM CR CV CG fG CK fK a_SMALL_WIDTH a_SMALL_SEEN)
    {od an : Option Addr} {sl : Array (Option Value)} {oc kV dc pm cd ct : Value} (a : PySem.W.nsIn K mainGlobals "law" = some (some (.ref f)))
    (lk : K.lookup f = some ⟨oc, od, .func (PySem.W.fnOf "law" "law" (defArgs s_law) (defBody s_law) (defScope s_law) .none kV dc pm an cd ct), sl⟩) (c : PySem.W.codeIn K cd "law" = true) (k : PySem.W.keepIn K (.ref f) = true) :
    ∃ fd : FuncData, (∀ (s : Shared) (v : Value), BindsTo s fd ⟨[v], []⟩ [("_law_script", v)]) ∧ ∀ base : Heap, K.In base → base.Ns mainGlobals mg → FnOk l.prog w K mg base CX0 13 fa fd ["_law_script"] (spLaw K) := by
  have e := hfa.symm.trans (PySem.W.mg_of X G a)
  cases e
  have F := fun_mk (st := s_law) lk c k
  have N : ∀ x ∈ (["isinstance", "str", "int", "bool", "list", "tuple", "dict", "all", "len", "enumerate", "range", "reversed", "zip", "set", "min", "max", "sorted", "sum"] : List Str), mg x = none := fun x hx => PySem.W.mg_none_of X G (A.bb x hx)
  obtain ⟨g1_BadMask, g2_BadMask, g3_BadMask, g4_BadMask, g5_BadMask⟩ := A.x_BadMask
  obtain ⟨g1_BadRow, g2_BadRow, g3_BadRow, g4_BadRow, g5_BadRow⟩ := A.x_BadRow
  obtain ⟨g1_BadView, g2_BadView, g3_BadView, g4_BadView, g5_BadView⟩ := A.x_BadView
  have T : Top K mg CM CR CV CG fG CK fK a_SMALL_WIDTH a_SMALL_SEEN :=
    { m_isinstance := N _ (by simp), m_str := N _ (by simp), m_int := N _ (by simp), m_bool := N _ (by simp), m_list := N _ (by simp), m_tuple := N _ (by simp), m_dict := N _ (by simp), m_all := N _ (by simp), m_len := N _ (by simp), m_enumerate := N _ (by simp), m_range := N _ (by simp), m_reversed := N _ (by simp), m_zip := N _ (by simp), m_set := N _ (by simp), m_min := N _ (by simp), m_max := N _ (by simp), m_sorted := N _ (by simp), m_sum := N _ (by simp), g_LETTERS := A.h_LETTERS.imp fun _ q => PySem.W.mg_of X G q, g_UNREAD := A.h_UNREAD.imp fun _ q => PySem.W.mg_of X G q, g_WIDEST := A.h_WIDEST.imp fun _ q => PySem.W.mg_of X G q, g_LONGEST := A.h_LONGEST.imp fun _ q => PySem.W.mg_of X G q, g_MOST_LOOKS := A.h_MOST_LOOKS.imp fun _ q => PySem.W.mg_of X G q, g_WIDEST_FOR_A_ROW := A.h_WIDEST_FOR_A_ROW.imp fun _ q => PySem.W.mg_of X G q, g_MOST_IN_ANY_ORDER := A.h_MOST_IN_ANY_ORDER.imp fun _ q => PySem.W.mg_of X G q, g_LONGEST_TO_MEND := A.h_LONGEST_TO_MEND.imp fun _ q => PySem.W.mg_of X G q, g_SMALL_WIDTH := ⟨PySem.W.mg_of X G A.k_SMALL_WIDTH.1, A.k_SMALL_WIDTH.2⟩, g_SMALL_SEEN := ⟨PySem.W.mg_of X G A.k_SMALL_SEEN.1, A.k_SMALL_SEEN.2⟩, c_Growth := A.o_Growth.own X G, t_Growth_init := A.i_Growth.fn fun _ _ _ _ _ _ us hl => match us, hl with | [_, _, _, _], _ => rfl, t_Growth_begun := A.i_Growth_begun.meth fun _ _ _ _ _ _ us hl => match us, hl with | [_, _], _ => rfl, t_Growth_longer := A.i_Growth_longer.meth fun _ _ _ _ _ _ us hl => match us, hl with | [_, _], _ => rfl, c_Tracker := A.o_Tracker.own X G, t_Tracker_init := A.i_Tracker.fn fun _ _ _ _ _ _ us hl => match us, hl with | [_, _, _], _ => rfl, e_BadMask := ⟨PySem.W.mg_of X G g1_BadMask, g2_BadMask, g3_BadMask, g4_BadMask, g5_BadMask⟩, e_BadRow := ⟨PySem.W.mg_of X G g1_BadRow, g2_BadRow, g3_BadRow, g4_BadRow, g5_BadRow⟩, e_BadView := ⟨PySem.W.mg_of X G g1_BadView, g2_BadView, g3_BadView, g4_BadView, g5_BadView⟩, q_CM_CM := A.q_CM_CM, q_CR_CM := A.q_CR_CM, q_CR_CR := A.q_CR_CR }
  refine ⟨PySem.W.fnOf "law" "law" (defArgs s_law) (defBody s_law) (defScope s_law) .none kV dc pm an cd ct, fun s v => .of_eq rfl, fun base _ _ => ?_⟩
  have e_made_of := A.d_made_of.ent (ps := p_made_of) X G fun _ _ _ _ _ _ us hl => match us, hl with | [_, _], _ => rfl
  have e_is_mask := A.d_is_mask.ent (ps := p_is_mask) X G fun _ _ _ _ _ _ us hl => match us, hl with | [_], _ => rfl
  have e_check_mask := A.d_check_mask.ent (ps := p_check_mask) X G fun _ _ _ _ _ _ us hl => match us, hl with | [_], _ => rfl
  have e_is_row := A.d_is_row.ent (ps := p_is_row) X G fun _ _ _ _ _ _ us hl => match us, hl with | [_], _ => rfl
  have e_check_row := A.d_check_row.ent (ps := p_check_row) X G fun _ _ _ _ _ _ us hl => match us, hl with | [_], _ => rfl
  have e_check_ring := A.d_check_ring.ent (ps := p_check_ring) X G fun _ _ _ _ _ _ us hl => match us, hl with | [_], _ => rfl
  have e_is_number := A.d_is_number.ent (ps := p_is_number) X G fun _ _ _ _ _ _ us hl => match us, hl with | [_, _, _], _ => rfl
  have e_check_number := A.d_check_number.ent (ps := p_check_number) X G fun _ _ _ _ _ _ us hl => match us, hl with | [_, _, _], _ => rfl
  have e_check_letters := A.d_check_letters.ent (ps := p_check_letters) X G fun _ _ _ _ _ _ us hl => match us, hl with | [_], _ => rfl
  have e_check_great := A.d_check_great.ent (ps := p_check_great) X G fun _ _ _ _ _ _ us hl => match us, hl with | [_, _, _], _ => rfl
  have e_check_small := A.d_check_small.ent (ps := p_check_small) X G fun _ _ _ _ _ _ us hl => match us, hl with | [_, _], _ => rfl
  have e_check_row_in := A.d_check_row_in.ent (ps := p_check_row_in) X G fun _ _ _ _ _ _ us hl => match us, hl with | [_, _], _ => rfl
  have e_check_lettered := A.d_check_lettered.ent (ps := p_check_lettered) X G fun _ _ _ _ _ _ us hl => match us, hl with | [_, _, _], _ => rfl
  have e_seen := A.d_seen.ent (ps := p_seen) X G fun _ _ _ _ _ _ us hl => match us, hl with | [_], _ => rfl
  have e_together := A.d_together.ent (ps := p_together) X G fun _ _ _ _ _ _ us hl => match us, hl with | [_, _, _], _ => rfl
  have e_view_at := A.d_view_at.ent (ps := p_view_at) X G fun _ _ _ _ _ _ us hl => match us, hl with | [_, _, _], _ => rfl
  have e_others := A.d_others.ent (ps := p_others) X G fun _ _ _ _ _ _ us hl => match us, hl with | [_, _], _ => rfl
  have e_views := A.d_views.ent (ps := p_views) X G fun _ _ _ _ _ _ us hl => match us, hl with | [_, _], _ => rfl
  have e_all_unlike := A.d_all_unlike.ent (ps := p_all_unlike) X G fun _ _ _ _ _ _ us hl => match us, hl with | [_], _ => rfl
  have e_tells := A.d_tells.ent (ps := p_tells) X G fun _ _ _ _ _ _ us hl => match us, hl with | [_, _], _ => rfl
  have e_grouped := A.d_grouped.ent (ps := p_grouped) X G fun _ _ _ _ _ _ us hl => match us, hl with | [_], _ => rfl
  have e_least_pair := A.d_least_pair.ent (ps := p_least_pair) X G fun _ _ _ _ _ _ us hl => match us, hl with | [_], _ => rfl
  have e_groups := A.d_groups.ent (ps := p_groups) X G fun _ _ _ _ _ _ us hl => match us, hl with | [_, _], _ => rfl
  have e_alike := A.d_alike.ent (ps := p_alike) X G fun _ _ _ _ _ _ us hl => match us, hl with | [_, _], _ => rfl
  have e_distance := A.d_distance.ent (ps := p_distance) X G fun _ _ _ _ _ _ us hl => match us, hl with | [_, _], _ => rfl
  have e_stands := A.d_stands.ent (ps := p_stands) X G fun _ _ _ _ _ _ us hl => match us, hl with | [_, _, _, _], _ => rfl
  have e_words := A.d_words.ent (ps := p_words) X G fun _ _ _ _ _ _ us hl => match us, hl with | [_, _], _ => rfl
  have e_near_bits := A.d_near_bits.ent (ps := p_near_bits) X G fun _ _ _ _ _ _ us hl => match us, hl with | [_, _, _], _ => rfl
  have e_window_bits := A.d_window_bits.ent (ps := p_window_bits) X G fun _ _ _ _ _ _ us hl => match us, hl with | [_, _, _], _ => rfl
  have e_farthest_rows := A.d_farthest_rows.ent (ps := p_farthest_rows) (n := 3) X G rfl (fun _ _ _ _ _ _ _ us its h1 h2 => match us, its, h1, h2 with | [_, _, _, _], [_], _, _ => ⟨_, rfl, rfl⟩) (fun _ _ _ _ _ _ _ us its h1 h2 => match us, its, h1, h2 with | [_, _, _], [_], _, _ => ⟨_, rfl, rfl⟩)
  have e_longest_rows := A.d_longest_rows.ent (ps := p_longest_rows) X G fun _ _ _ _ _ _ us hl => match us, hl with | [_, _], _ => rfl
  have e_longest := A.d_longest.ent (ps := p_longest) X G fun _ _ _ _ _ _ us hl => match us, hl with | [_, _], _ => rfl
  have e_count_rows := A.d_count_rows.ent (ps := p_count_rows) X G fun _ _ _ _ _ _ us hl => match us, hl with | [_, _, _], _ => rfl
  have e_next_letters := A.d_next_letters.ent (ps := p_next_letters) X G fun _ _ _ _ _ _ us hl => match us, hl with | [_, _, _], _ => rfl
  have e_farthest := A.d_farthest.ent (ps := p_farthest) X G fun _ _ _ _ _ _ us hl => match us, hl with | [_, _, _], _ => rfl
  have e_masks_of := A.d_masks_of.ent (ps := p_masks_of) X G fun _ _ _ _ _ _ us hl => match us, hl with | [_], _ => rfl
  have e_masks_to := A.d_masks_to.ent (ps := p_masks_to) X G fun _ _ _ _ _ _ us hl => match us, hl with | [_], _ => rfl
  have e_best_masks := A.d_best_masks.ent (ps := p_best_masks) X G fun _ _ _ _ _ _ us hl => match us, hl with | [_, _, _], _ => rfl
  have e_least_masks := A.d_least_masks.ent (ps := p_least_masks) X G fun _ _ _ _ _ _ us hl => match us, hl with | [_, _], _ => rfl
  have e_near := A.d_near.ent (ps := p_near) X G fun _ _ _ _ _ _ us hl => match us, hl with | [_, _, _, _], _ => rfl
  have e_find := A.d_find.ent (ps := p_find) X G fun _ _ _ _ _ _ us hl => match us, hl with | [_, _, _], _ => rfl
  have e_looks_needed := A.d_looks_needed.ent (ps := p_looks_needed) X G fun _ _ _ _ _ _ us hl => match us, hl with | [_, _], _ => rfl
  have e_steps_needed := A.d_steps_needed.ent (ps := p_steps_needed) X G fun _ _ _ _ _ _ us hl => match us, hl with | [_, _], _ => rfl
  have e_put_in_order := A.d_put_in_order.ent (ps := p_put_in_order) X G fun _ _ _ _ _ _ us hl => match us, hl with | [_, _], _ => rfl
  have e_joined := A.d_joined.ent (ps := p_joined) X G fun _ _ _ _ _ _ us hl => match us, hl with | [_, _], _ => rfl
  have e_first_clash := A.d_first_clash.ent (ps := p_first_clash) X G fun _ _ _ _ _ _ us hl => match us, hl with | [_, _], _ => rfl
  have e_rows_from := A.d_rows_from.ent (ps := p_rows_from) X G fun _ _ _ _ _ _ us hl => match us, hl with | [_, _], _ => rfl
  have e_sure_from := A.d_sure_from.ent (ps := p_sure_from) X G fun _ _ _ _ _ _ us hl => match us, hl with | [_, _], _ => rfl
  have e_mend := A.d_mend.ent (ps := p_mend) X G fun _ _ _ _ _ _ us hl => match us, hl with | [_, _, _], _ => rfl
  have e_weak_letters := A.d_weak_letters.ent (ps := p_weak_letters) X G fun _ _ _ _ _ _ us hl => match us, hl with | [_, _, _], _ => rfl
  have e_ring_views := A.d_ring_views.ent (ps := p_ring_views) X G fun _ _ _ _ _ _ us hl => match us, hl with | [_, _], _ => rfl
  have e_ring_tells := A.d_ring_tells.ent (ps := p_ring_tells) X G fun _ _ _ _ _ _ us hl => match us, hl with | [_, _], _ => rfl
  have e_longest_ring := A.d_longest_ring.ent (ps := p_longest_ring) X G fun _ _ _ _ _ _ us hl => match us, hl with | [_, _], _ => rfl
  have e_full_rings := A.d_full_rings.ent (ps := p_full_rings) X G fun _ _ _ _ _ _ us hl => match us, hl with | [_, _], _ => rfl
  have e_write := A.d_write.ent (ps := p_write) X G fun _ _ _ _ _ _ us hl => match us, hl with | [_, _], _ => rfl
  have e__law_taken := A.d__law_taken.ent (ps := p__law_taken) X G fun _ _ _ _ _ _ us hl => match us, hl with | [_, _], _ => rfl
  have e__law_odd_mask := A.d__law_odd_mask.ent (ps := p__law_odd_mask) X G fun _ _ _ _ _ _ us hl => match us, hl with | [_], _ => rfl
  have e__law_odd_row := A.d__law_odd_row.ent (ps := p__law_odd_row) X G fun _ _ _ _ _ _ us hl => match us, hl with | [_], _ => rfl
  have e__law_masked := A.d__law_masked.ent (ps := p__law_masked) X G fun _ _ _ _ _ _ us hl => match us, hl with | [_, _], _ => rfl
  have e__law_rowed := A.d__law_rowed.ent (ps := p__law_rowed) X G fun _ _ _ _ _ _ us hl => match us, hl with | [_, _], _ => rfl
  have e__law_told := A.d__law_told.ent (ps := p__law_told) X G fun _ _ _ _ _ _ us hl => match us, hl with | [_, _], _ => rfl
  have c__law_taken := ok_taken (P := l.prog) (w := w) (base := base) e__law_taken T
  have c__law_odd_mask := ok_odd_mask e__law_odd_mask T c__law_taken
  have c__law_odd_row := ok_odd_row e__law_odd_row T c__law_taken
  have c_made_of := ok_made_of (P := l.prog) (w := w) (base := base) e_made_of T
  have c_is_mask := ok_is_mask e_is_mask T c_made_of
  have c_check_mask := ok_check_mask e_check_mask T c_is_mask
  have x_check_small := ok_check_smallX e_check_small T c_check_mask
  have x_longest_rows := ok_longest_rowsX e_longest_rows T x_check_small
  have x_longest := ok_longestX e_longest T x_longest_rows
  have x_full_rings := ok_full_ringsX e_full_rings T x_check_small
  have x_longest_ring := ok_longest_ringX e_longest_ring T x_check_small
  have c_seen := ok_seen e_seen T c_check_mask
  have x_put_in_order := ok_put_in_orderX e_put_in_order T c_seen
  have x_joined := ok_joinedX e_joined T x_put_in_order
  have x_first_clash := ok_first_clashX e_first_clash T x_put_in_order
  have x_rows_from := ok_rows_fromX e_rows_from T c_seen
  have x_sure_from := ok_sure_fromX e_sure_from T x_rows_from
  have x_together := ok_togetherX e_together T c_check_mask
  have x_count_rows := ok_count_rowsX e_count_rows T x_check_small
  have c_is_row := ok_is_row e_is_row T c_made_of
  have x_check_row := ok_check_rowX e_check_row T c_is_row
  have x_views := ok_viewsX e_views T x_check_row c_seen
  have x_steps_needed := ok_steps_neededX e_steps_needed T x_views (no_looks_needed e_looks_needed T)
  have x_alike := ok_alikeX e_alike T x_views (no_least_pair e_least_pair T)
  have x_distance := ok_distanceX e_distance T x_views
  have x_groups := ok_groupsX e_groups T x_views (no_grouped e_grouped T)
  have x_tells := ok_tellsX e_tells T x_views (no_all_unlike e_all_unlike T)
  have x_check_ring := ok_check_ringX e_check_ring T x_check_row
  have x_ring_views := ok_ring_viewsX e_ring_views T x_check_ring c_seen
  have x_ring_tells := ok_ring_tellsX e_ring_tells T x_ring_views (no_all_unlike e_all_unlike T)
  have c_is_number := ok_is_number (P := l.prog) (w := w) (base := base) e_is_number T
  have c_check_letters := ok_letters e_check_letters T c_is_number
  have x_check_row_in := ok_check_row_inX e_check_row_in T x_check_row
  have x_check_lettered := ok_check_letteredX e_check_lettered T c_check_mask c_check_letters x_check_row_in
  have x_next_letters := ok_next_lettersX e_next_letters T x_check_lettered
  have c_check_great := ok_great (P := l.prog) (w := w) (base := base) e_check_great T
  have c_check_small := ok_small e_check_small T c_check_mask c_check_letters c_check_great
  have x_farthest := ok_farthestX e_farthest T x_check_small c_check_small x_check_row_in
  have x_mend := ok_mendX e_mend T x_check_lettered
  have x_weak_letters := ok_weak_lettersX e_weak_letters T x_check_lettered
  have x_write := ok_writeX e_write T c_check_mask x_check_row
  have x_near := ok_nearX e_near T x_views
  have x_find := ok_findX e_find T x_near
  have x_stands := ok_standsX e_stands T x_distance
  have c__law_masked := ok_law_masked e__law_masked T x_longest x_longest_rows x_full_rings x_longest_ring x_joined x_first_clash x_rows_from x_sure_from x_together x_count_rows x_steps_needed x_views x_alike x_distance x_groups x_tells x_ring_tells x_ring_views x_next_letters x_farthest x_mend x_weak_letters c_seen x_write x_find x_near x_stands (ok_tinitX T x_views)
  have x_least_masks := ok_least_masksX e_least_masks T x_check_row
  have c__law_rowed := ok_law_rowed e__law_rowed T x_steps_needed x_views x_alike x_distance x_groups x_tells x_ring_tells x_ring_views x_next_letters x_farthest x_mend x_weak_letters x_write x_find x_near x_stands x_least_masks (ok_tinitX T x_views)
  have c__law_told := ok_told1 e__law_told T c__law_masked c__law_rowed
  have c_check_number := ok_numC e_check_number T c_is_number
  have c_words := ok_words (P := l.prog) (w := w) (base := base) e_words T
  have c_masks_of := ok_masks_of e_masks_of T c_words
  have c_masks_to := ok_masks_to e_masks_to T c_masks_of
  have c_view_at := ok_view_at (P := l.prog) (w := w) (base := base) e_view_at T
  have c_others := ok_others (P := l.prog) (w := w) (base := base) e_others T
  have c_near_bits := ok_near_bits e_near_bits T c_others
  have c_window_bits := ok_bits e_window_bits T (seen0 c_seen) c_words c_view_at c_near_bits
  have c_farthest_rows := ok_far e_farthest_rows T c_window_bits
  have c_longest_rows := ok_long_rows e_longest_rows T (small0 c_check_small) c_farthest_rows
  have c_longest := ok_longest e_longest T c_longest_rows
  have c_best_masks := ok_best e_best_masks T c_check_number c_check_letters c_check_great c_masks_to c_longest
  exact ok_law F T c__law_taken c__law_odd_mask c__law_odd_row c__law_told c_best_masks
end K01
open PySem PySem.W PyProof.Rows
set_option maxHeartbeats 0
theorem PySem.Challenge.cw_holedwindows_k01_masks_refused_holds : PySem.Challenge.rw_holedwindows_k01_masks_refused.Holds := by
  w_on; o_law; k_head; (case hw => w_witness2)
  k_fill
  refine L2.walk_of (l := PySem.Challenge.rw_holedwindows_k01_masks_refused) (n := 63) (k := 13) (x := "_law_script") (CX := fun _ => L2.CX0) (sp := fun w => K01.spLaw _) rfl (by decide) rfl ⟨rfl, by decide, by decide⟩ (fun w h Y => PySem.W.kIn_of Y) ?F (fun _ _ a ns hl _ hS => ⟨a, ns, rfl, hS, hl, fun _ => rfl⟩) (fun _ _ _ _ _ h => h)
  case F =>
    intro w mg fa h KX G hmg
    refine' K01.all_mk KX G hmg ?A ?a ?l ?c ?k
    (case a => k_is); (case l => k_is); (case c => k_is); (case k => k_is)
    case A =>
      refine' ⟨?zd0, ?zd1, ?zd2, ?zd3, ?zd4, ?zd5, ?zd6, ?zd7, ?zd8, ?zd9, ?zd10, ?zd11, ?zd12, ?zd13, ?zd14, ?zd15, ?zd16, ?zd17, ?zd18, ?zd19, ?zd20, ?zd21, ?zd22, ?zd23, ?zd24, ?zd25, ?zd26, ?zd27, ?zd28, ?zd29, ?zd30, ?zd31, ?zd32, ?zd33, ?zd34, ?zd35, ?zd36, ?zd37, ?zd38, ?zd39, ?zd40, ?zd41, ?zd42, ?zd43, ?zd44, ?zd45, ?zd46, ?zd47, ?zd48, ?zd49, ?zd50, ?zd51, ?zd52, ?zd53, ?zd54, ?zd55, ?zd56, ?zd57, ?zd58, ?zd59, ?zd60, ?zbb, ?zh0, ?zh1, ?zh2, ?zh3, ?zh4, ?zh5, ?zh6, ?zh7, ?zk0, ?zk1, ?zo0, ?zi0, ?zm0_0, ?zm0_1, ?zo1, ?zi1, ?zx0, ?zx1, ?zx2, ?zq0, ?zq1, ?zq2⟩
      (case zd0 => refine' K01.DefAt.mk ?x1 ?x2 ?x3 ?x4; (case x1 => k_is); (case x2 => k_is); (case x3 => k_is); (case x4 => k_is))
      (case zd1 => refine' K01.DefAt.mk ?x1 ?x2 ?x3 ?x4; (case x1 => k_is); (case x2 => k_is); (case x3 => k_is); (case x4 => k_is))
      (case zd2 => refine' K01.DefAt.mk ?x1 ?x2 ?x3 ?x4; (case x1 => k_is); (case x2 => k_is); (case x3 => k_is); (case x4 => k_is))
      (case zd3 => refine' K01.DefAt.mk ?x1 ?x2 ?x3 ?x4; (case x1 => k_is); (case x2 => k_is); (case x3 => k_is); (case x4 => k_is))
      (case zd4 => refine' K01.DefAt.mk ?x1 ?x2 ?x3 ?x4; (case x1 => k_is); (case x2 => k_is); (case x3 => k_is); (case x4 => k_is))
      (case zd5 => refine' K01.DefAt.mk ?x1 ?x2 ?x3 ?x4; (case x1 => k_is); (case x2 => k_is); (case x3 => k_is); (case x4 => k_is))
      (case zd6 => refine' K01.DefAt.mk ?x1 ?x2 ?x3 ?x4; (case x1 => k_is); (case x2 => k_is); (case x3 => k_is); (case x4 => k_is))
      (case zd7 => refine' K01.DefAt.mk ?x1 ?x2 ?x3 ?x4; (case x1 => k_is); (case x2 => k_is); (case x3 => k_is); (case x4 => k_is))
      (case zd8 => refine' K01.DefAt.mk ?x1 ?x2 ?x3 ?x4; (case x1 => k_is); (case x2 => k_is); (case x3 => k_is); (case x4 => k_is))
      (case zd9 => refine' K01.DefAt.mk ?x1 ?x2 ?x3 ?x4; (case x1 => k_is); (case x2 => k_is); (case x3 => k_is); (case x4 => k_is))
      (case zd10 => refine' K01.DefAt.mk ?x1 ?x2 ?x3 ?x4; (case x1 => k_is); (case x2 => k_is); (case x3 => k_is); (case x4 => k_is))
      (case zd11 => refine' K01.DefAt.mk ?x1 ?x2 ?x3 ?x4; (case x1 => k_is); (case x2 => k_is); (case x3 => k_is); (case x4 => k_is))
      (case zd12 => refine' K01.DefAt.mk ?x1 ?x2 ?x3 ?x4; (case x1 => k_is); (case x2 => k_is); (case x3 => k_is); (case x4 => k_is))
      (case zd13 => refine' K01.DefAt.mk ?x1 ?x2 ?x3 ?x4; (case x1 => k_is); (case x2 => k_is); (case x3 => k_is); (case x4 => k_is))
      (case zd14 => refine' K01.DefAt.mk ?x1 ?x2 ?x3 ?x4; (case x1 => k_is); (case x2 => k_is); (case x3 => k_is); (case x4 => k_is))
      (case zd15 => refine' K01.DefAt.mk ?x1 ?x2 ?x3 ?x4; (case x1 => k_is); (case x2 => k_is); (case x3 => k_is); (case x4 => k_is))
      (case zd16 => refine' K01.DefAt.mk ?x1 ?x2 ?x3 ?x4; (case x1 => k_is); (case x2 => k_is); (case x3 => k_is); (case x4 => k_is))
      (case zd17 => refine' K01.DefAt.mk ?x1 ?x2 ?x3 ?x4; (case x1 => k_is); (case x2 => k_is); (case x3 => k_is); (case x4 => k_is))
      (case zd18 => refine' K01.DefAt.mk ?x1 ?x2 ?x3 ?x4; (case x1 => k_is); (case x2 => k_is); (case x3 => k_is); (case x4 => k_is))
      (case zd19 => refine' K01.DefAt.mk ?x1 ?x2 ?x3 ?x4; (case x1 => k_is); (case x2 => k_is); (case x3 => k_is); (case x4 => k_is))
      (case zd20 => refine' K01.DefAt.mk ?x1 ?x2 ?x3 ?x4; (case x1 => k_is); (case x2 => k_is); (case x3 => k_is); (case x4 => k_is))
      (case zd21 => refine' K01.DefAt.mk ?x1 ?x2 ?x3 ?x4; (case x1 => k_is); (case x2 => k_is); (case x3 => k_is); (case x4 => k_is))
      (case zd22 => refine' K01.DefAt.mk ?x1 ?x2 ?x3 ?x4; (case x1 => k_is); (case x2 => k_is); (case x3 => k_is); (case x4 => k_is))
      (case zd23 => refine' K01.DefAt.mk ?x1 ?x2 ?x3 ?x4; (case x1 => k_is); (case x2 => k_is); (case x3 => k_is); (case x4 => k_is))
      (case zd24 => refine' K01.DefAt.mk ?x1 ?x2 ?x3 ?x4; (case x1 => k_is); (case x2 => k_is); (case x3 => k_is); (case x4 => k_is))
      (case zd25 => refine' K01.DefAt.mk ?x1 ?x2 ?x3 ?x4; (case x1 => k_is); (case x2 => k_is); (case x3 => k_is); (case x4 => k_is))
      (case zd26 => refine' K01.DefAt.mk ?x1 ?x2 ?x3 ?x4; (case x1 => k_is); (case x2 => k_is); (case x3 => k_is); (case x4 => k_is))
      (case zd27 => refine' K01.DefAt.mk ?x1 ?x2 ?x3 ?x4; (case x1 => k_is); (case x2 => k_is); (case x3 => k_is); (case x4 => k_is))
      (case zd28 => refine' K01.DefAt.mk ?x1 ?x2 ?x3 ?x4; (case x1 => k_is); (case x2 => k_is); (case x3 => k_is); (case x4 => k_is))
      (case zd29 => refine' Qt.DefAtD.mk ?x1 ?x2 ?x3 ?x4 ?x5 ?x6; (case x1 => k_is); (case x2 => k_is); (case x3 => k_is); (case x4 => k_is); (case x5 => k_is); (case x6 => exact ⟨_, rfl⟩))
      (case zd30 => refine' K01.DefAt.mk ?x1 ?x2 ?x3 ?x4; (case x1 => k_is); (case x2 => k_is); (case x3 => k_is); (case x4 => k_is))
      (case zd31 => refine' K01.DefAt.mk ?x1 ?x2 ?x3 ?x4; (case x1 => k_is); (case x2 => k_is); (case x3 => k_is); (case x4 => k_is))
      (case zd32 => refine' K01.DefAt.mk ?x1 ?x2 ?x3 ?x4; (case x1 => k_is); (case x2 => k_is); (case x3 => k_is); (case x4 => k_is))
      (case zd33 => refine' K01.DefAt.mk ?x1 ?x2 ?x3 ?x4; (case x1 => k_is); (case x2 => k_is); (case x3 => k_is); (case x4 => k_is))
      (case zd34 => refine' K01.DefAt.mk ?x1 ?x2 ?x3 ?x4; (case x1 => k_is); (case x2 => k_is); (case x3 => k_is); (case x4 => k_is))
      (case zd35 => refine' K01.DefAt.mk ?x1 ?x2 ?x3 ?x4; (case x1 => k_is); (case x2 => k_is); (case x3 => k_is); (case x4 => k_is))
      (case zd36 => refine' K01.DefAt.mk ?x1 ?x2 ?x3 ?x4; (case x1 => k_is); (case x2 => k_is); (case x3 => k_is); (case x4 => k_is))
      (case zd37 => refine' K01.DefAt.mk ?x1 ?x2 ?x3 ?x4; (case x1 => k_is); (case x2 => k_is); (case x3 => k_is); (case x4 => k_is))
      (case zd38 => refine' K01.DefAt.mk ?x1 ?x2 ?x3 ?x4; (case x1 => k_is); (case x2 => k_is); (case x3 => k_is); (case x4 => k_is))
      (case zd39 => refine' K01.DefAt.mk ?x1 ?x2 ?x3 ?x4; (case x1 => k_is); (case x2 => k_is); (case x3 => k_is); (case x4 => k_is))
      (case zd40 => refine' K01.DefAt.mk ?x1 ?x2 ?x3 ?x4; (case x1 => k_is); (case x2 => k_is); (case x3 => k_is); (case x4 => k_is))
      (case zd41 => refine' K01.DefAt.mk ?x1 ?x2 ?x3 ?x4; (case x1 => k_is); (case x2 => k_is); (case x3 => k_is); (case x4 => k_is))
      (case zd42 => refine' K01.DefAt.mk ?x1 ?x2 ?x3 ?x4; (case x1 => k_is); (case x2 => k_is); (case x3 => k_is); (case x4 => k_is))
      (case zd43 => refine' K01.DefAt.mk ?x1 ?x2 ?x3 ?x4; (case x1 => k_is); (case x2 => k_is); (case x3 => k_is); (case x4 => k_is))
      (case zd44 => refine' K01.DefAt.mk ?x1 ?x2 ?x3 ?x4; (case x1 => k_is); (case x2 => k_is); (case x3 => k_is); (case x4 => k_is))
      (case zd45 => refine' K01.DefAt.mk ?x1 ?x2 ?x3 ?x4; (case x1 => k_is); (case x2 => k_is); (case x3 => k_is); (case x4 => k_is))
      (case zd46 => refine' K01.DefAt.mk ?x1 ?x2 ?x3 ?x4; (case x1 => k_is); (case x2 => k_is); (case x3 => k_is); (case x4 => k_is))
      (case zd47 => refine' K01.DefAt.mk ?x1 ?x2 ?x3 ?x4; (case x1 => k_is); (case x2 => k_is); (case x3 => k_is); (case x4 => k_is))
      (case zd48 => refine' K01.DefAt.mk ?x1 ?x2 ?x3 ?x4; (case x1 => k_is); (case x2 => k_is); (case x3 => k_is); (case x4 => k_is))
      (case zd49 => refine' K01.DefAt.mk ?x1 ?x2 ?x3 ?x4; (case x1 => k_is); (case x2 => k_is); (case x3 => k_is); (case x4 => k_is))
      (case zd50 => refine' K01.DefAt.mk ?x1 ?x2 ?x3 ?x4; (case x1 => k_is); (case x2 => k_is); (case x3 => k_is); (case x4 => k_is))
      (case zd51 => refine' K01.DefAt.mk ?x1 ?x2 ?x3 ?x4; (case x1 => k_is); (case x2 => k_is); (case x3 => k_is); (case x4 => k_is))
      (case zd52 => refine' K01.DefAt.mk ?x1 ?x2 ?x3 ?x4; (case x1 => k_is); (case x2 => k_is); (case x3 => k_is); (case x4 => k_is))
      (case zd53 => refine' K01.DefAt.mk ?x1 ?x2 ?x3 ?x4; (case x1 => k_is); (case x2 => k_is); (case x3 => k_is); (case x4 => k_is))
      (case zd54 => refine' K01.DefAt.mk ?x1 ?x2 ?x3 ?x4; (case x1 => k_is); (case x2 => k_is); (case x3 => k_is); (case x4 => k_is))
      (case zd55 => refine' K01.DefAt.mk ?x1 ?x2 ?x3 ?x4; (case x1 => k_is); (case x2 => k_is); (case x3 => k_is); (case x4 => k_is))
      (case zd56 => refine' K01.DefAt.mk ?x1 ?x2 ?x3 ?x4; (case x1 => k_is); (case x2 => k_is); (case x3 => k_is); (case x4 => k_is))
      (case zd57 => refine' K01.DefAt.mk ?x1 ?x2 ?x3 ?x4; (case x1 => k_is); (case x2 => k_is); (case x3 => k_is); (case x4 => k_is))
      (case zd58 => refine' K01.DefAt.mk ?x1 ?x2 ?x3 ?x4; (case x1 => k_is); (case x2 => k_is); (case x3 => k_is); (case x4 => k_is))
      (case zd59 => refine' K01.DefAt.mk ?x1 ?x2 ?x3 ?x4; (case x1 => k_is); (case x2 => k_is); (case x3 => k_is); (case x4 => k_is))
      (case zd60 => refine' K01.DefAt.mk ?x1 ?x2 ?x3 ?x4; (case x1 => k_is); (case x2 => k_is); (case x3 => k_is); (case x4 => k_is))
      (case zh0 => refine' K01.StrAt.mk ?x1; (case x1 => k_is))
      (case zh1 => refine' K01.StrAt.mk ?x1; (case x1 => k_is))
      (case zh2 => refine' K01.IntAt.mk ?x1; (case x1 => k_is))
      (case zh3 => refine' K01.IntAt.mk ?x1; (case x1 => k_is))
      (case zh4 => refine' K01.IntAt.mk ?x1; (case x1 => k_is))
      (case zh5 => refine' K01.IntAt.mk ?x1; (case x1 => k_is))
      (case zh6 => refine' K01.IntAt.mk ?x1; (case x1 => k_is))
      (case zh7 => refine' K01.IntAt.mk ?x1; (case x1 => k_is))
      (case zk0 => refine' ⟨?x1, ?x2⟩; (case x1 => k_is); (case x2 => intro kv hkv; simp only [List.mem_cons, List.not_mem_nil, or_false] at hkv; rcases hkv with rfl | rfl | rfl | rfl <;> (refine' Qt.KDctI.mk ?y1 ?y2 ?y3 ?y4; (case y1 => k_is); (case y2 => exact (Qt.KeysInt.cons rfl rfl (Qt.KeysInt.cons rfl rfl (Qt.KeysInt.cons rfl rfl (Qt.KeysInt.cons rfl rfl Qt.KeysInt.nil))))); (case y3 => rfl); (case y4 => exact ⟨_, rfl⟩))))
      (case zk1 => refine' ⟨?x1, ?x2⟩; (case x1 => k_is); (case x2 => intro kv hkv; simp only [List.mem_cons, List.not_mem_nil, or_false] at hkv; rcases hkv with rfl | rfl | rfl | rfl <;> (refine' Qt.KDctI.mk ?y1 ?y2 ?y3 ?y4; (case y1 => k_is); (case y2 => exact (Qt.KeysInt.cons rfl rfl (Qt.KeysInt.cons rfl rfl (Qt.KeysInt.cons rfl rfl (Qt.KeysInt.cons rfl rfl Qt.KeysInt.nil))))); (case y3 => rfl); (case y4 => exact ⟨_, rfl⟩))))
      (case zo0 => refine' ⟨?x1, ?x2, ?x3, ?x4, ?x5, ?x6, ?x7, ?x8, ?x9, ?y1⟩; (case x1 => k_is); (case x2 => k_is); (case x3 => k_is); (case x4 => k_is); (case x5 => k_is); (case x6 => k_is); (case x7 => k_is); (case x8 => k_is); (case x9 => k_is); (case y1 => intro x hx; simp only [List.mem_cons, List.not_mem_nil, or_false] at hx; rcases hx with rfl | rfl | rfl <;> k_is))
      (case zi0 => refine' Qt.FnAt.mk ?x1 ?x2 ?x3; (case x1 => k_is); (case x2 => k_is); (case x3 => k_is))
      (case zm0_0 => refine' Qt.MethAt.mk ?x1 ?x2 ?x3 ?x4 ?x5; (case x1 => k_is); (case x2 => k_is); (case x3 => k_is); (case x4 => k_is); (case x5 => k_is))
      (case zm0_1 => refine' Qt.MethAt.mk ?x1 ?x2 ?x3 ?x4 ?x5; (case x1 => k_is); (case x2 => k_is); (case x3 => k_is); (case x4 => k_is); (case x5 => k_is))
      (case zo1 => refine' ⟨?x1, ?x2, ?x3, ?x4, ?x5, ?x6, ?x7, ?x8, ?x9, ?y1⟩; (case x1 => k_is); (case x2 => k_is); (case x3 => k_is); (case x4 => k_is); (case x5 => k_is); (case x6 => k_is); (case x7 => k_is); (case x8 => k_is); (case x9 => k_is); (case y1 => intro x hx; simp only [List.mem_cons, List.not_mem_nil, or_false] at hx; rcases hx with rfl | rfl | rfl | rfl <;> k_is))
      (case zi1 => refine' Qt.FnAt.mk ?x1 ?x2 ?x3; (case x1 => k_is); (case x2 => k_is); (case x3 => k_is))
      (case zx0 => refine' ⟨?x1, ?x2, ?x3, ?x4, ?x5⟩; (case x1 => k_is); (case x2 => kernel_rfl); (case x3 => k_is); (case x4 => k_is); (case x5 => k_is))
      (case zx1 => refine' ⟨?x1, ?x2, ?x3, ?x4, ?x5⟩; (case x1 => k_is); (case x2 => kernel_rfl); (case x3 => k_is); (case x4 => k_is); (case x5 => k_is))
      (case zx2 => refine' ⟨?x1, ?x2, ?x3, ?x4, ?x5⟩; (case x1 => k_is); (case x2 => kernel_rfl); (case x3 => k_is); (case x4 => k_is); (case x5 => k_is))
      (case zq0 => kts_exm)
      (case zq1 => kts_exm)
      (case zq2 => kts_exm)
      (case zbb =>
        intro x hx
        simp only [List.mem_cons, List.not_mem_nil, or_false] at hx
        rcases hx with rfl | rfl | rfl | rfl | rfl | rfl | rfl | rfl | rfl | rfl | rfl | rfl | rfl | rfl | rfl | rfl | rfl | rfl <;> k_is)
