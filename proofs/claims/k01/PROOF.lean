import PyProof.Rows.All
import Wide.All
import OpenK.AllK
import Wide.FinOn
import HandS.Base
import HandS.Call
import HandS.List
import HandS.Words
import KE.GoesEnum
import HandS.Iter
import HandS.ForMost
import HandS.More
import HandS.Star
import HandS.Defaults
import HandS.IsInst
import HandS.ExcInit
import HandS.ExcSuper
import HandS.ExcOwn
import KE.KExcSuper
import HandS.ExcIs
import HandS.ExcField
import KE.KExcIs
import HandS.HeadHook4
import HandS.Head0
import HandS.Head1
import KE.KStateDown
import HandS.Zip
import HandS.TupMul
import HandS.Walk
import HandS.Head2
import HandS.HeadEnd
import PySem.Challenge.RW_stealbeats_k01_programs_refused
import HandS.TryOnly
import HandS.Lambda
import HandS.Deep
import KE.KDflt
import HandS.Nested
import HandS.Comp
import HandS.TupAny
import KE.KDictPairs
import KE.KDictLaws
import HandS.Dict
import PyProof.EqAt
import PyProof.EqKinds
import PyProof.NeKinds
import HandS.Style
import HandS.EndTab
import KE.KNestM
set_option Elab.async false
set_option linter.all false
set_option maxRecDepth 100000
namespace L2
open PySem PySem.Spec PyProof.Rows
section
variable {X : Cx}
abbrev Bd := Option (List (Nat × V))
def RelB (X : Cx) : Bd → Option (List (Str × Value)) → Prop
  | none, none => True
  | some bs, some us => Paired (fun (p : Nat × V) (q : Str × Value) => X.N[p.1]? = some q.1 ∧ Loc X.env.scope q.1 ∧ (X.fn q.1 = true ∨ X.env.scope.names.lookup q.1 = some .local) ∧ RelV p.2 q.2) bs us
  | _, _ => False
abbrev TPat := V → St → Hp → (Bd → Hp → Prop) → Prop
abbrev TPats := List V → St → Hp → (Bd → Hp → Prop) → Prop
structure PPat (X : Cx) (p : Pattern) (t : TPat) : Prop where
  run : ∀ (pins : List (Addr × Obj)) (s : Shared) (σ : St) (H : Hp) (v : V) (u : Value) (Q : Bd → Hp → Prop), Inv X pins σ H s → RelV v u → t v σ H Q →
    wpAny (model X.prog X.w) X.A (matchPattern p X.env u) (fun r s' => ∃ r' H', Inv X pins σ H' s' ∧ RelB X r' r ∧ Q r' H') X.xe s
structure PFst (X : Cx) (ps : List Pattern) (t : TPat) : Prop where
  run : ∀ (pins : List (Addr × Obj)) (s : Shared) (σ : St) (H : Hp) (v : V) (u : Value) (Q : Bd → Hp → Prop), Inv X pins σ H s → RelV v u → t v σ H Q →
    wpAny (model X.prog X.w) X.A (matchFirst ps X.env u) (fun r s' => ∃ r' H', Inv X pins σ H' s' ∧ RelB X r' r ∧ Q r' H') X.xe s
structure PEach (X : Cx) (ps : List Pattern) (t : TPats) : Prop where
  run : ∀ (pins : List (Addr × Obj)) (s : Shared) (σ : St) (H : Hp) (vs : List V) (us : List Value) (Q : Bd → Hp → Prop), Inv X pins σ H s → Vals vs us → t vs σ H Q →
    wpAny (model X.prog X.w) X.A (matchEach ps X.env us) (fun r s' => ∃ r' H', Inv X pins σ H' s' ∧ RelB X r' r ∧ Q r' H') X.xe s

def tpStr (x : Str) : TPat := fun v _ H Q => scal v (.str x) = true ∧ Q (if v = .str x then some [] else none) H
theorem pp_str {x : Str} {j pos pos'} : PPat X (.MatchValue (.Constant (.str x) j pos) pos') (tpStr x) := by
  refine ⟨fun pins s σ H v u Q I r h => ?_⟩
  obtain ⟨h1, h2⟩ := h
  refine wpAny_matchPattern_Value (Calls.Constant_str ?_)
  refine thn (op_eq pins _ σ H v (.str x) u _ (fun c H' => c = .bl (decide (v = .str x)) ∧ H' = H) (I.tok _) r ⟨_, rfl⟩ ⟨h1, rfl, rfl⟩) fun c s2 ⟨y, H1, I1, r1, q1, q2⟩ => ?_
  subst q1 q2
  cases r1
  refine wpAny_truthy_bool ?_
  by_cases e : v = .str x
  · rw [if_pos e] at h2
    rw [if_pos (decide_eq_true e)]
    exact ⟨some [], _, I1, .nil, h2⟩
  · rw [if_neg e] at h2
    rw [if_neg (by simp [e])]
    exact ⟨none, _, I1, trivial, h2⟩
def tpName (i : Nat) : TPat := fun v _ H Q => Q (some [(i, v)]) H
theorem pp_name {i : Nat} {x : Str} {pos} (hi : X.N[i]? = some x) (hx : Loc X.env.scope x) (hf : X.fn x = true ∨ X.env.scope.names.lookup x = some .local := by first | exact .inl rfl | exact .inr rfl | assumption) :
    PPat X (.MatchAs none (some x) pos) (tpName i) := by
  refine ⟨fun pins s σ H v u Q I r h => ?_⟩
  exact wpAny_matchPattern_Capture ⟨some [(i, v)], H, I, (show RelB X (some [(i, v)]) (some [(x, u)]) from Paired.cons ⟨hi, hx, hf, r⟩ Paired.nil), h⟩
def tpNo : TPat := fun _ _ H Q => Q none H
def tpElse (t u : TPat) : TPat := fun v σ H Q => t v σ H fun r H1 => match r with
  | some bs => Q (some bs) H1
  | none => u v σ H1 Q
theorem pf_nil : PFst X [] tpNo := ⟨fun pins s σ H v u Q I r h => wpAny_matchFirst_nil ⟨none, H, I, trivial, h⟩⟩
theorem pf_cons {p : Pattern} {ps : List Pattern} {t u : TPat} (h1 : PPat X p t) (h2 : PFst X ps u) : PFst X (p :: ps) (tpElse t u) := by
  refine ⟨fun pins s σ H v u Q I r h => ?_⟩
  refine wpAny_matchFirst_cons (thn (h1.run pins s σ H v u _ I r h) fun b s1 ⟨b', H1, I1, rb, q⟩ => ?_)
  cases b with
  | none =>
    cases b' with
    | none => exact h2.run pins s1 σ H1 v u Q I1 r q
    | some _ => exact rb.elim
  | some us =>
    cases b' with
    | none => exact rb.elim
    | some bs => exact ⟨some bs, H1, I1, rb, q⟩
def tpOr (t : TPat) : TPat := fun v σ H Q => t v σ H fun r H1 => match r with
  | some _ => Q (some []) H1
  | none => Q none H1
theorem pp_or {ps : List Pattern} {t : TPat} {pos} (h : PFst X ps t) (hn : namesOfAll (ps.take 1) = [] := by rfl) : PPat X (.MatchOr ps pos) (tpOr t) := by
  refine ⟨fun pins s σ H v u Q I r hw => ?_⟩
  refine wpAny_matchPattern_Or (thn (h.run pins s σ H v u _ I r hw) fun b s1 ⟨b', H1, I1, rb, q⟩ => ?_)
  cases b with
  | none =>
    cases b' with
    | none => exact ⟨none, H1, I1, trivial, q⟩
    | some _ => exact rb.elim
  | some us =>
    cases b' with
    | none => exact rb.elim
    | some bs =>
      rw [hn]
      exact ⟨some [], H1, I1, .nil, q⟩
def tqNil : TPats := fun _ _ H Q => Q (some []) H
def tqCons (t : TPat) (u : TPats) : TPats := fun vs σ H Q => ∃ v rest, vs = v :: rest ∧ t v σ H fun r H1 => match r with
  | none => Q none H1
  | some bs => u rest σ H1 fun r' H2 => match r' with
    | none => Q none H2
    | some more => Q (some (bs ++ more)) H2
theorem pq_nil : PEach X [] tqNil := ⟨fun pins s σ H vs us Q I r h => wpAny_matchEach_nil ⟨some [], H, I, .nil, h⟩⟩
theorem Paired.append' {α β : Type} {R : α → β → Prop} : ∀ {a b : List α} {c d : List β}, Paired R a c → Paired R b d → Paired R (a ++ b) (c ++ d)
  | _, _, _, _, .nil, h => h
  | _, _, _, _, .cons r t, h => .cons r (Paired.append' t h)
theorem pq_cons {p : Pattern} {ps : List Pattern} {t : TPat} {u : TPats} (h1 : PPat X p t) (h2 : PEach X ps u) (hp : p.isStar = false := by rfl) : PEach X (p :: ps) (tqCons t u) := by
  refine ⟨fun pins s σ H vs us Q I r h => ?_⟩
  obtain ⟨v, rest, e, h⟩ := h
  subst e
  cases r with
  | cons r rr =>
    refine wpAny_matchEach_cons (thn (h1.run pins s σ H v _ _ I r h) fun b s1 ⟨b', H1, I1, rb, q⟩ => ?_) hp
    cases b with
    | none =>
      cases b' with
      | none => exact ⟨none, H1, I1, trivial, q⟩
      | some _ => exact rb.elim
    | some us =>
      cases b' with
      | none => exact rb.elim
      | some bs =>
        refine thn (h2.run pins s1 σ H1 rest _ _ I1 rr q) fun b2 s2 ⟨b2', H2, I2, rb2, q2⟩ => ?_
        cases b2 with
        | none =>
          cases b2' with
          | none => exact ⟨none, H2, I2, trivial, q2⟩
          | some _ => exact rb2.elim
        | some us2 =>
          cases b2' with
          | none => exact rb2.elim
          | some bs2 => exact ⟨some (bs ++ bs2), H2, I2, Paired.append' rb rb2, q2⟩
def tpSeq (K : PySem.W.Frag) (n : Nat) (t : TPats) : TPat := fun v σ H Q => ∃ a xs, v = .ref a ∧ SqT K H a xs ∧ if xs.length = n then t xs σ H Q else Q none H
theorem pp_seq {ps : List Pattern} {t : TPats} {pos} {n : Nat} (hc : X.calm = true) (h : PEach X ps t) (hn : ps.length = n := by rfl) (hstar : ps.findIdx? (·.isStar) = none := by rfl)
    (hwild : (ps.all fun p => p.isWildcard || (p.isStar && p.names.isEmpty)) = false := by rfl) : PPat X (.MatchSequence ps pos) (tpSeq X.K n t) := by
  refine ⟨fun pins s σ H v u Q I r hw => ?_⟩
  obtain ⟨a, xs, e, hq, hw⟩ := hw
  subst e hn
  cases r
  obtain ⟨its, rv, ht, hz⟩ := I.tuple hq
  have hl := rv.length
  have hfit : (its.toArray.size : Int) < 2 ^ 63 := by
    have : (sizeLine : Int) < 2 ^ 63 := by decide
    simp
    omega
  by_cases en : xs.length = ps.length
  · rw [if_pos en] at hw
    refine matchSeq_tuple_hit ht hfit (by simp; omega) ?_ hstar hwild
    have e2 : ps.length = its.toArray.size := by simp; omega
    rw [e2]
    refine unpackItems_tuple (s := { s with toks := s.toks + 1 + 1 }) (I.ok.hd hc) ht fun h' hx => ?_
    have I1 : Inv X pins σ H { s with toks := s.toks + 1 + 1, heap := h' } := (I.tok (s.toks + 1 + 1)).kept (t' := s.toks + 1 + 1) fun b o e => hx b o (Nat.ne_of_lt (Heap.lt_size e)) e
    exact h.run pins _ σ H xs _ Q I1 (by simpa using rv) hw
  · rw [if_neg en] at hw
    exact matchSeq_tuple_miss ht hfit (by simp; omega) ⟨none, H, I.tok _, trivial, hw⟩ hstar hwild
def bindAll : List (Nat × V) → St → St
  | [], σ => σ
  | (i, v) :: r, σ => bindAll r (σ.set i (some v))
theorem bind_ok {M : Model} {A : Around} {E : Value → Shared → Prop} {pins : List (Addr × Obj)} {H : Hp} (hN : X.N.Nodup) {bs : List (Nat × V)} {us : List (Str × Value)} {σ : St} {s : Shared} {Q : Unit → Shared → Prop}
    (rb : RelB X (some bs) (some us)) (I : Inv X pins σ H s) (h : ∀ s', Inv X pins (bindAll bs σ) H s' → Q () s') : wpAny M A (assignInOrder (us.map fun (n, _) => bindName X.env n) (us.map (·.2))) Q E s := by
  have rb' : Paired (fun (p : Nat × V) (q : Str × Value) => X.N[p.1]? = some q.1 ∧ Loc X.env.scope q.1 ∧ (X.fn q.1 = true ∨ X.env.scope.names.lookup q.1 = some .local) ∧ RelV p.2 q.2) bs us := rb
  clear rb
  induction rb' generalizing σ s with
  | nil => exact wpAny_assignInOrder_none (h s I)
  | cons r _ ih =>
    obtain ⟨h1, h2, h3, h4⟩ := r
    exact wpAny_assignInOrder_more (wpAny_bindName (store_ok I hN h1 h2 h4 (fun s' I' => ih I' h) h3))
abbrev TMc := V → TS
structure PMc (X : Cx) (cs : List MatchCase) (t : TMc) : Prop where
  run : ∀ (first : Bool) (pins : List (Addr × Obj)) (s : Shared) (σ : St) (H : Hp) (v : V) (u : Value) (D : Ends), Inv X pins σ H s → RelV v u → t v D σ H → wpAny (model X.prog X.w) X.A (matchCases cs X.env u first) (SP X pins D) X.xe s
def tmNil : TMc := fun _ D σ H => D.nx σ H
def tmCons (p : TPat) (b : TS) (u : TMc) : TMc := fun v D σ H => p v σ H fun r H1 => match r with
  | none => u v D σ H1
  | some bs => b D (bindAll bs σ) H1
theorem pm_nil : PMc X [] tmNil := ⟨fun _ pins s σ H v u D I r h => wpAny_matchCases_nil ⟨σ, H, I, h⟩⟩
theorem pm_cons {p : Pattern} {body : List Stmt} {cs : List MatchCase} {tp : TPat} {tb : TS} {u : TMc} (hN : X.N.Nodup) (h1 : PPat X p tp) (h2 : PSs X body tb) (h3 : PMc X cs u) : PMc X (⟨p, none, body⟩ :: cs) (tmCons tp tb u) := by
  refine ⟨fun first pins s σ H v uu D I r h => ?_⟩
  refine wpAny_matchCases_cons (thn (h1.run pins s σ H v uu _ I r h) fun b s1 ⟨b', H1, I1, rb, q⟩ => ?_)
  cases b with
  | none =>
    cases b' with
    | none => exact h3.run false pins s1 σ H1 v uu D I1 r q
    | some _ => exact rb.elim
  | some us =>
    cases b' with
    | none => exact rb.elim
    | some bs => exact bind_ok hN rb I1 fun s2 I2 => h2.run pins s2 _ H1 D I2 q
def tMatch (te : TE) (tm : TMc) : TS := fun D σ H => te σ H fun v H1 => tm v D σ H1
theorem ps_match {e : Expr} {cs : List MatchCase} {te : TE} {tm : TMc} {pos} (he : PE X e te) (hm : PMc X cs tm) : PS X (.Match e cs pos) (tMatch te tm) := by
  refine ⟨fun pins s σ H D I h => ?_⟩
  exact wpAny_Match (thn (he.run pins s σ H _ I h) fun v s1 ⟨x, H1, I1, r1, q1⟩ => hm.run true pins s1 σ H1 x v D I1 r1 q1)
end
end L2

set_option Elab.async false
set_option linter.all false
set_option maxRecDepth 100000
namespace PySem
open Sem (wp)
open AutoSeq1 (wpAny_loadPart')
set_option maxHeartbeats 1000000 in
theorem meets_enumerate_new1 {v : Value} {o : Obj} {H : Heap → Prop} (B : Begins v o H) :
    Meets (Builtin.«enumerate.__new__» ⟨[.type "enumerate", v], []⟩) (fun _ R s => H s.heap ∧
      R (.ok (.ret (.ref (s.heap.push o).objs.size))) { s with heap := (s.heap.push o).push { cls := .type "enumerate", data := .fields #[.none, .bool false, .ref s.heap.objs.size, rawInt 0, .none, .none] } }) :=
  .of_wp fun prog w A R s h => by
    obtain ⟨hp, g, d, tk, os⟩ := s; obtain ⟨h1, h⟩ := h
    have hsub := sub_enumerate
    have q1 : ∀ {A' : Around} {E : Value → Shared → Prop} {Q : Value → Shared → Prop}, Q (.ref hp.objs.size) ⟨hp.push o, g, d, tk, os⟩ → wpAny (model prog w) A' (pyIter v) Q E ⟨hp, g, d, tk, os⟩ :=
      fun q => B.iter prog w _ _ ⟨hp, g, d, tk, os⟩ _ h1 q
    wp_walk using q1
    refine wpAny_stack_any fun st => wpAny_pure ?_
    split
    · rename_i c _ _ _ _ _
      cases (c == Value.type "enumerate")
      · wp_walk using q1
        exact ⟨_, rfl, h⟩
      · wp_walk using q1
        exact ⟨_, rfl, h⟩
    · wp_walk using q1
      exact ⟨_, rfl, h⟩
theorem enum_begins1 {prog : Program} {w : World} {A : Around} {E : Value → Shared → Prop} {s : Shared} {v : Value} {o : Obj} {H : Heap → Prop} {Q : Value → Shared → Prop} (B : Begins v o H) (h1 : H s.heap)
    (h : ∀ h', IsEnum h' (s.heap.objs.size + 1) s.heap.objs.size 0 .none → h'.get? s.heap.objs.size = some o → h'.objs.size = s.heap.objs.size + 2 →
      (∀ b o, s.heap.get? b = some o → h'.get? b = some o) → Q (.ref (s.heap.objs.size + 1)) { s with heap := h' }) :
    wpAny (model prog w) A (call (.type "enumerate") [v]) Q E s := by
  refine callType_new F.called_enumerate (by decide) (F.typeCall_enumerate_1 _) (F.newCall_enumerate_1 _) (fun obj => F.args_object_init_2 obj _) F.entry_enumerate_new
    (meets_enumerate_new1 B) ⟨h1, ?_⟩
  have hz : (s.heap.push o).objs.size = s.heap.objs.size + 1 := Heap.size_push ..
  show _ ∧ _
  rw [hz]
  have he : IsEnum ((s.heap.push o).push { cls := .type "enumerate", data := .fields #[.none, .bool false, .ref s.heap.objs.size, rawInt 0, .none, .none] }) (s.heap.objs.size + 1) s.heap.objs.size 0 .none := by
    have := Heap.get?_push_size (s.heap.push o) (o := { cls := .type "enumerate", data := .fields #[.none, .bool false, .ref s.heap.objs.size, rawInt 0, .none, .none] }) rfl
    rw [hz] at this; exact this
  refine ⟨⟨_, he, rfl⟩, h _ he (Heap.get?_push_of_some _ (Heap.get?_push_size _ B.free)) (by rw [Heap.size_push, hz]) fun b o x => Heap.get?_push_of_some _ (Heap.get?_push_of_some _ x)⟩
end PySem
namespace L2
open PySem PySem.Spec PyProof.Rows
def IteT (K : PySem.W.Frag) (a : Addr) : It :=
  ⟨fun i H => ∃ (xs : List V) (x : V), SqT K H a xs ∧ xs[i]? = some x, fun i H v H' => ∃ T x, v = .ref T ∧ H T = none ∧ H' = upd H T (.tup [.int (i : Nat), x]) ∧ ∀ xs, SqT K H a xs → xs[i]? = some x, fun i H => ∃ xs : List V, SqT K H a xs ∧ xs.length ≤ i⟩
theorem pyNext_enumT_end {prog : Program} {w : World} {A : Around} {E : Value → Shared → Prop} {s : Shared} {e it l : Addr} {i : Nat} {items : Array Value} {old : Value} {Q : Option Value → Shared → Prop} (hh : A.handled = none)
    (he : IsEnum s.heap e it i old) (hit : s.heap.IsTupleIter it l i) (hl : s.heap.IsTuple l items) (hx : items[i]? = none)
    (hQ : ∀ h', Heap.ExtBut it s.heap h' → Q none { s with heap := h' }) : wpAny (model prog w) A (pyNext (.ref e)) Q E s := by
  have hT : s.TypeIs (.ref e) "enumerate" := ⟨_, he, rfl⟩
  unfold pyNext
  refine wpAny_bind (wpAny_attempt (wpAny_callSpecial?_slot (name := Str.ofString "__next__") hT F.slot_enumerate_next
    (wpAny_call_entry F.slot_enumerate_next hT F.entry_enumerate_next ?_ (F.args_enumerate_next_1 _))))
  show wpAny _ _ (field (.ref e) 2 >>= _) _ _ _
  refine wpAny_bind (wpAny_field he rfl (x := .ref it) rfl ?_)
  refine wpAny_bind (wpAny_nextOf_tuple_end hh hit hl hx fun h' x he' hx' => ?_)
  obtain ⟨o, ho, hc⟩ := hx'
  refine wpAny_bind (wpAny_isInstance (T := "StopIteration") (b := true) ⟨o, ho, hc⟩ isSubtype_stop ?_)
  exact wpAny_pure (hQ _ he')
theorem turn_enumT {P : Program} {w : World} {K : PySem.W.Frag} {elts : List Expr} {kk : Nat} {tpos : Pos} (a e it : Addr) :
    Turn P w K (.Tuple elts kk tpos) (IteT K a) [e, it] e (fun i h => (∃ old, IsEnum h e it ((i : Nat) : Int) old) ∧ h.IsTupleIter it a i ∧ e ≠ it) where
  mem := by simp
  obj := fun i h st b hb => by
    obtain ⟨⟨old, he⟩, ⟨o, ho, hc, hd⟩, _⟩ := st
    have e' : b = e ∨ b = it := by simpa using hb
    rcases e' with z | z
    · rw [z]; exact ⟨_, he, fun v q => nomatch q⟩
    · rw [z]; exact ⟨o, ho, fun v q => by rw [hd] at q; cases q⟩
  keep := fun i h h' st k => let ⟨⟨old, he⟩, hi, hne⟩ := st; ⟨⟨old, k e (by simp) _ he⟩, hi.at fun o q => k it (by simp) o q, hne⟩
  item := by
    intro X hP hw hK hc i pins s σ H E I hf st hg
    subst hP hw hK
    obtain ⟨⟨old, he⟩, hit, hne⟩ := st
    obtain ⟨xs, x, hq, hx⟩ := hg
    obtain ⟨its, rv, p, hz⟩ := I.tuple hq
    obtain ⟨u, hu, ru⟩ := rv.get hx
    have hel : e < s.heap.objs.size := Heap.lt_size he
    have hil : it < s.heap.objs.size := by obtain ⟨_, q, _⟩ := hit; exact Heap.lt_size q
    have p' : s.heap.IsTuple a its.toArray := p
    have ea : e ≠ a := by
      rintro rfl
      obtain ⟨o, ho, hc', _⟩ := p'
      rw [he] at ho
      cases ho
      exact absurd (show Value.type "enumerate" = Value.type "tuple" from hc') (by decide)
    have ia : it ≠ a := by
      rintro rfl
      obtain ⟨o, ho, hc', _⟩ := p'
      obtain ⟨o2, ho2, hc2, _⟩ := hit
      rw [ho2] at ho
      cases ho
      rw [hc2] at hc'
      exact absurd hc' (by decide)
    have hlt : i < its.toArray.size := by
      have := (List.getElem?_eq_some_iff.mp hu).1
      simpa using this
    refine wpAny_pyNext_enum_itemD (Draws.tuple (show X.A.in1.handled = none from I.ok.hd hc) it a (Ne.symm ia) its.toArray) he ⟨hit, p'⟩ hlt hne (by simp [hne, ea]) fun x' h' tk hPx ho hst' hT hsz hk => ?_
    have hxu : x' = u := by
      have e1 : its.toArray[i]? = some x' := hPx
      have e2 : its.toArray[i]? = some u := by simpa using hu
      rw [e1] at e2
      exact Option.some.inj e2
    subst hxu
    refine ⟨_, rfl, wpAny_letOwnedTupleGo_enum (s := { s with heap := h', toks := tk + 1 }) ho fun h'' he' sb => ?_⟩
    have hT2 : h''.get? s.heap.objs.size = some { cls := .type "tuple", data := .seq #[.int i tk, x'] } := (sb.2 _ (Nat.ne_of_gt hel)).trans hT
    have new : ObjOk X.prog X.w (upd H s.heap.objs.size (.tup [.int (i : Nat), x])) h'' s.heap.objs.size (.tup [.int (i : Nat), x]) :=
      ⟨by show 2 ≤ sizeLine; decide, [.int i tk, x'], .cons ⟨_, rfl⟩ (.cons ru .nil), ⟨_, hT2, rfl, _, rfl⟩⟩
    have I1 : Inv X pins σ (upd H s.heap.objs.size (.tup [.int (i : Nat), x])) { s with heap := h'', toks := tk + 1 } :=
      I.turnedNew (ch := [e, it]) (fun b ob hb q => (sb.2 b (fun z => hb (by simp [z]))).trans (hk b ob (fun z => hb (by simp [z])) (fun z => hb (by simp [z])) q)) hf (Nat.le_refl _) new
    refine ⟨.ref s.heap.objs.size, _, I1, rfl, ⟨_, x, rfl, I.hok.fresh (Nat.le_refl _), rfl, fun ys hy => by rw [I.tuple_inj hy hq]; exact hx⟩, ⟨⟨x', ?_⟩, hst'.1.at fun o q => (sb.2 it (Ne.symm hne)).trans q, hne⟩, fun b hb => ?_⟩
    · have e1 : ((i + 1 : Nat) : Int) = (i : Int) + 1 := by omega
      rw [e1]; exact he'
    · have hb' : b < s.heap.objs.size := by
        have e' : b = e ∨ b = it := by simpa using hb
        rcases e' with z | z
        · rw [z]; exact hel
        · rw [z]; exact hil
      rw [upd_ne (Nat.ne_of_lt hb')]
      exact (hf b hb).1
  done := by
    intro X hP hw hK hc i pins s σ H E I hf st hg
    subst hP hw hK
    obtain ⟨⟨old, he⟩, hit, hne⟩ := st
    obtain ⟨xs, hq, hx⟩ := hg
    obtain ⟨its, rv, p, hz⟩ := I.tuple hq
    obtain ⟨f0, f1, f2, f3, f4, f5⟩ := hf it (by simp)
    have hl := rv.length
    exact pyNext_enumT_end (I.ok.hd hc) he hit p (by simp; omega) fun h' eb => ⟨rfl, I.turned (t' := s.toks) (fun b o hb q => eb b o hb q) f0 f1 f3 f4 f5⟩
  self := fun A i s Q E st h => let ⟨⟨_, he⟩, _⟩ := st; wpAny_pyIter_enum he h
def iEnumT (K : PySem.W.Frag) (ta : TA) : TI := fun σ H R => ta σ H fun vs H1 => ∃ a xs, vs = [.ref a] ∧ SqT K H1 a xs ∧ R (IteT K a) H1
theorem pi_enumT {X : Cx} {e : Expr} {ta : TA} {p pos tpos : Pos} {elts : List Expr} {kk : Nat} (hg : Gl X "enumerate") (hm : X.mg "enumerate" = none) (ha : PA X [e] ta) (hs : starEach [e] X.env = [(false, eval e X.env)] := by rfl) :
    PI X (.Tuple elts kk tpos) (.Call (.Name "enumerate" p) [e] [] pos) (iEnumT X.K ta) := by
  refine ⟨fun pins s σ H R I h => ?_⟩
  refine Call_ (ld_blt I hg hm boot_enumerate (PyProof.Rows.callWith_type1 (thn (ha.run pos pins s σ H _ I h) fun us s1 ⟨vs, H1, I1, r1, q1⟩ => ?_) hs rfl))
  obtain ⟨a, xs, ex, hq, q⟩ := q1
  subst ex
  cases r1 with
  | cons r rr =>
    cases rr
    cases r
    obtain ⟨its, rv, p', hz⟩ := I1.tuple hq
    refine enum_begins1 (begins_tuple a its.toArray) p' fun h' he hit hsz hk => wpAny_pyIter_enum he ?_
    have I2 : Inv X pins σ H1 { s1 with heap := h' } := I1.kept (t' := s1.toks) hk
    refine ⟨s1.heap.objs.size + 1, [s1.heap.objs.size + 1, s1.heap.objs.size], _, _, H1, rfl, I2, turn_enumT a (s1.heap.objs.size + 1) s1.heap.objs.size, ⟨⟨.none, he⟩, ⟨_, hit, rfl, rfl⟩, Nat.succ_ne_self _⟩, fun b hb => ?_, q⟩
    have e' : b = s1.heap.objs.size + 1 ∨ b = s1.heap.objs.size := by simpa using hb
    have hle : s1.heap.objs.size ≤ b := by
      rcases e' with z | z
      · rw [z]; exact Nat.le_add_right _ _
      · rw [z]; exact Nat.le_refl _
    exact I1.fpOk hle (I1.hok.fresh hle)
end L2

set_option Elab.async false
set_option linter.all false
set_option maxRecDepth 100000
namespace L2
open PySem PySem.Spec PyProof.Rows StX
def tCallR (sp : Sp) (t : TA) : TE := fun σ H Q => t σ H fun vs H1 => sp vs H1 Q E0
section
variable {X : Cx} {k : Nat} {f C : Addr} {sp : Sp} {x m : Str} {e o : Expr} {es : List Expr} {te ta : TE} {t : TA} {p sp_ pos apos : Pos}
theorem pe_callR (F : FnR X.prog X.w X.K X.mg X.base CX0 k f sp) (hr : Room k X.A) (hg : Gl X x) (hm : X.mg x = some (.ref f)) (hk : PySem.W.keepIn X.K (.ref f) = true)
    (ha : PA X (e :: es) t) (hdb : (x == ("__debug__" : Str)) = false := by decide) (he : starEach (e :: es) X.env = (false, eval e X.env) :: starEach es X.env := by rfl) (hpl : (backTo pos (starEach es X.env)).any (·.1) = false := by rfl) :
    PE X (.Call (.Name x p) (e :: es) [] pos) (tCallR sp t) := by
  refine ⟨fun pins s σ H Q I h => ?_⟩
  refine wpAny_Call_Name_kw (ld_glob I hg hm ?_ hdb)
  refine PySem.W.callWith_K (h₀ := X.base) I.ok.mod.kin hk (thn (ha.run pos pins s σ H _ I h) fun us s1 ⟨vs, H1, I1, r, q⟩ => ⟨I1.kIn, ?_⟩) he hpl
  exact wpAny_call (run_fnR F hr pass0 I1 r q)
theorem pe_mthR {pl : Sem Bool} (he : PE X o ta) (c : Cls X.K C) (hm : Meth X.K C m f)
    (F : FnR X.prog X.w X.K X.mg X.base CX0 k f sp) (hr : Room k X.A) (ha : PA X (e :: es) t)
    (hst : starEach (e :: es) X.env = (false, eval e X.env) :: starEach es X.env := by rfl) (hpl : (backTo pos (starEach es X.env)).any (·.1) = false := by rfl)
    (ht : eval (.Call (.Attribute o m apos) (e :: es) [] pos) X.env = (do
      let ov ← eval o X.env
      standAt apos.atName
      let (f, first) ← holding [ov] (getMethod ov m pl)
      callWith pos f first (backTo pos (starEach (e :: es) X.env)) (backToKw pos (keywordEach [] X.env))) := by rfl) :
    PE X (.Call (.Attribute o m apos) (e :: es) [] pos) (tMethR C m sp E0 ta t) := pe_methR he c hm F hr pass0 ha hst hpl ht
theorem pe_mth0R {pl : Sem Bool} (he : PE X o ta) (c : Cls X.K C) (hm : Meth X.K C m f) (F : FnR X.prog X.w X.K X.mg X.base CX0 k f sp) (hr : Room k X.A)
    (ht : eval (.Call (.Attribute o m apos) [] [] pos) X.env = (do
      let ov ← eval o X.env
      standAt apos.atName
      let (f, first) ← holding [ov] (getMethod ov m pl)
      callWith pos f first (backTo pos (starEach [] X.env)) (backToKw pos (keywordEach [] X.env))) := by rfl) :
    PE X (.Call (.Attribute o m apos) [] [] pos) (tMethR C m sp E0 ta tNil) := by
  refine ⟨fun pins s σ H Q I h => ?_⟩
  refine PySem.W.methodCall_KW (pl := pl) (thn (he.run pins s σ H _ I h) fun u s1 ⟨x, H1, I1, rx, a, dx, fs, ex, ea, l, q⟩ => ?_) ht
  subst ex
  obtain rfl : u = Value.ref a := rx
  refine getmeth_ok I1 ea c hm l ?_
  exact PySem.W.callWith_K0 (first := [.ref a]) I1.kIn hm.kp (wpAny_call (run_fnR (us := [.ref a]) (vs := [.ref a]) F hr pass0 I1 (.cons rfl .nil) q))
theorem pe_mkR (M : Mk X.K C f) (F : FnR X.prog X.w X.K X.mg X.base CX0 k f sp) (hr : Room (k + 1) X.A) (hg : Gl X x) (hm : X.mg x = some (.ref C)) (ha : PA X (e :: es) t) (hdb : (x == ("__debug__" : Str)) = false := by decide)
    (he : starEach (e :: es) X.env = (false, eval e X.env) :: starEach es X.env := by rfl) (hpl : (backTo pos (starEach es X.env)).any (·.1) = false := by rfl) : PE X (.Call (.Name x p) (e :: es) [] pos) (tMakeR C sp E0 t) :=
  pe_makeR M F hr hg hm pass0 ha hdb he hpl
def tMakeS (K : PySem.W.Frag) (C : Addr) (sp : Sp) (te : TE) : TE := fun σ H Q => te σ H fun y H1 => ∃ a xs, y = V.ref a ∧ SqT K H1 a xs ∧ ∀ x dx, H1 x = Option.none → H1 dx = Option.none → dx ≠ x →
  sp (V.ref x :: xs) (upd (upd H1 dx (.own x)) x (.ins C dx [])) (fun v H2 => v = .non ∧ Q (.ref x) H2) E0
theorem pe_mkS (M : Mk X.K C f) (F : FnR X.prog X.w X.K X.mg X.base CX0 k f sp) (hr : Room (k + 1) X.A) (hg : Gl X x) (hm : X.mg x = some (.ref C)) (he : PE X e te) (hd : (x == ("__debug__" : Str)) = false := by decide)
    (hst : starEach [.Starred e sp_] X.env = [(true, eval e X.env)] := by rfl) : PE X (.Call (.Name x p) [.Starred e sp_] [] pos) (tMakeS X.K C sp te) := by
  refine ⟨fun pins s σ H Q I h => ?_⟩
  refine wpAny_Call_Name_kw (ld_glob I hg hm ?_ hd)
  refine PySem.W.callWith_S (h₀ := X.base) I.ok.mod.kin M.kp (thn (he.run pins s σ H _ I h) fun v s1 ⟨y, H1, I1, ry, a, xs, ey, hxs, q⟩ => ?_) hst
  subst ey
  obtain rfl : v = Value.ref a := ry
  exact star_any I1 (.inl hxs) fun us s2 I2 rv => ⟨I2.kIn, run_makeR M F hr pass0 I2 rv q⟩
end
section
variable {P : Program} {w : World} {K : PySem.W.Frag} {mg : Str → Option Value} {base : Heap} {x qual : Str} {params : Arguments} {body : List Stmt} {scope : Scope} {f : Addr} {fd : FuncData}
theorem FunD.r {N ps : List Str} {k : Nat} {sp : Sp} (F : FunD K x qual params body scope [] [] f fd) (S : FnScope N ps scope)
    (hb : ∀ (kV doc pm : Value) (an : Option Addr) (cdv ct : Value) (us : List Value), us.length = ps.length → bindArgs (PySem.W.fnOf x qual params body scope .none kV doc pm an cdv ct) ⟨us, []⟩ = pure (ps.zip us))
    (len : ∀ vs H Q E, sp vs H Q E → vs.length = ps.length)
    (hbody : ∀ (cdv : Value) (A : Around) (outer : List Env) (s : Shared) (H : Hp) (vs : List V) (Q : VK) (E : XK), Room k (A.deeper (envOfC qual scope s.heap.objs.size f cdv)) → sp vs H Q E →
      ∃ t, PSs (cxOf CX0 P w K mg base N qual scope f cdv A outer s H E).nox body t ∧ t { nx := fun _ H' => Q .non H', rt := Q } (start N vs) H) : FnR P w K mg base CX0 (k + 1) f sp := by
  refine ((F.ok (CX := CX0) S len (fun cdv A outer s H vs Q E hr hs => ?_)).raw (F.bindsN hb) .nil).imp (fun vs H Q E h => by rw [List.append_nil]; exact h)
  obtain ⟨t, h1, h2⟩ := hbody cdv A outer s H vs Q E hr hs
  exact ⟨t, h1.nox, h2⟩
end
end L2

set_option Elab.async false
set_option linter.all false
set_option maxRecDepth 100000
namespace L2
open PySem PySem.Spec PyProof.Rows
theorem PE.imp {X : Cx} {e : Expr} {t t' : TE} (h : PE X e t) (i : ∀ σ H Q, t' σ H Q → t σ H Q) : PE X e t' := ⟨fun pins s σ H Q I hw => h.run pins s σ H Q I (i σ H Q hw)⟩
inductive TyN (K : PySem.W.Frag) (H : Hp) : V → String → Prop where
  | int (i : Int) : TyN K H (.int i) "int"
  | str (x : Str) : TyN K H (.str x) "str"
  | bl (b : Bool) : TyN K H (.bl b) "bool"
  | non : TyN K H .non "NoneType"
  | tup {a : Addr} {xs : List V} (h : SqT K H a xs) : TyN K H (.ref a) "tuple"
  | lst {a : Addr} {xs : List V} (h : SqL K H a xs) : TyN K H (.ref a) "list"
def subTy (n T : String) : Bool := n == T || (n == "bool" && T == "int")
theorem TyN.mem {K : PySem.W.Frag} {H : Hp} {x : V} {n : String} (t : TyN K H x n) : n ∈ ["int", "str", "bool", "NoneType", "tuple", "list"] := by cases t <;> decide
theorem TyN.tyX {K : PySem.W.Frag} {H : Hp} {x : V} {n : String} (t : TyN K H x n) : TyX K H x (.type n) := by
  cases t with
  | int i => exact .base (.int i)
  | str i => exact .base (.str i)
  | bl i => exact .base (.bl i)
  | non => exact .base .non
  | tup h =>
    rcases h with (h | ⟨o, h⟩) | ⟨o, its, n, hk, hc, _⟩
    · exact .base (.tup h)
    · exact .fTuple h
    · exact .kTuple hk hc
  | lst h =>
    rcases h with (h | ⟨o, h⟩) | ⟨o, its, n, hk, hc, _⟩
    · exact .base (.lst h)
    · exact .base (.frz h)
    · exact .kList hk hc
def tIsi (K : PySem.W.Frag) (T : String) (te : TE) : TE := fun σ H Q => te σ H fun x H1 => V.ty T = V.ty T ∧ ∃ n, TyN K H1 x n ∧ Q (.bl (subTy n T)) H1
theorem pe_isi {X : Cx} {T : Str} {n : String} {e : Expr} {te : TE} {p p2 pos : Pos} (hg : Gl X "isinstance") (hm : X.mg "isinstance" = none) (hg2 : Gl X T) (hm2 : X.mg T = none) (he : PE X e te)
    (hv : bootBuiltins T = some (.type n) := by decide +kernel) (hk : ∀ m ∈ ["int", "str", "bool", "NoneType", "tuple", "list"], kitB m n = some (subTy m n) := by decide +kernel) (hn : T ≠ "__name__" := by decide) (hd : (T == ("__debug__" : Str)) = false := by decide)
    (hs : starEach [e, .Name T p2] X.env = (false, eval e X.env) :: starEach [.Name T p2] X.env := by rfl)
    (hs2 : starEach [.Name T p2] X.env = (false, eval (.Name T p2) X.env) :: starEach [] X.env := by rfl) (hpl : (backTo pos (starEach [.Name T p2] X.env)).any (·.1) = false := by rfl) :
    PE X (.Call (.Name "isinstance" p) [e, .Name T p2] [] pos) (tIsi X.K n te) := by
  refine ⟨fun pins s σ H Q I h => ?_⟩
  have ha := pa_cons he (pa_cons (pe_bltn (v := .ty n) (pos := p2) hg2 hm2 hv rfl hn hd) pa_nil hs2) hs
  refine wpAny_Call_Name_kw (ld_blt (u := .builtin "isinstance") I hg hm (by decide +kernel) ?_)
  refine PyProof.Rows.callWith_builtin1 (thn (ha.run pos pins s σ H (fun vs H1 => match vs with
    | [x, c] => c = .ty n ∧ ∃ m, TyN X.K H1 x m ∧ Q (.bl (subTy m n)) H1
    | _ => False) I ?_) fun us s1 ⟨vs, H1, I1, r1, q1⟩ => ?_) hs hpl
  · exact h
  · match vs, r1, q1 with
    | [x, c], r1, q1 =>
      obtain ⟨rfl, m, ty, q⟩ := q1
      exact call_isi pins s1 σ H1 _ us Q I1 r1 ⟨x, .ty n, .type m, .type n, subTy m n, rfl, .ty n, ty.tyX, kit_ty (hk m ty.mem), q⟩
end L2

set_option Elab.async false
set_option linter.all false
set_option maxRecDepth 100000
set_option maxHeartbeats 2000000
namespace PySem
namespace BadX
open PySem.W PySem.Calls PyProof.Rows PySem.HandSPX
def iA (f : Str) (p1 p2 : Pos) : Arguments := { posonlyargs := [], args := [{ arg := "self", annotation := none, pos := p1 }, { arg := f, annotation := none, pos := p2 }], vararg := none, kwonlyargs := [], kw_defaults := [], kwarg := none, defaults := [] }
def iB (f s1 s2 : Str) (q : List Pos) : List Stmt :=
  let p (i : Nat) : Pos := q.getD i ⟨0, 0, 0, 0⟩
  [.Expr (.Call (.Attribute (.Call (.Name "super" (p 0)) [] [] (p 1)) "__init__" (p 2)) [.JoinedStr [.Constant (.str s1) 0 (p 3), .FormattedValue (.Name f (p 4)) (-1) none (p 5), .Constant (.str s2) 0 (p 6)] (p 7)] [] (p 8)) (p 9),
   .Assign [.Attribute (.Name "self" (p 10)) f (p 11)] (.Name f (p 12)) (p 13)]
def iS (f : Str) : Scope := { kind := .function, names := [(PySem.Str.ofString "self", .local), (f, .local), (PySem.Str.ofString "__class__", .free), (PySem.Str.ofString "super", .globalImplicit)], isGenerator := false, isCoroutine := false, more := [] }
structure BadTxt (P : Program) (K : Frag) (mg : Str → Option Value) (nm f s1 s2 : Str) (C fI B : Addr) : Prop where
  gC : mg nm = some (.ref C)
  noS : mg "super" = none
  cls : ∃ nm q N bs bm sn sub ab col dd k0 k1 k2 k3 k5, K.lookup C = some (excClassObj nm q C N bs bm true sn sub ab col dd k0 k1 k2 k3 k5 "ValueError.__new__") ∧ refsVE bm = true
  ini : excInitIn K C veTail "ValueError.__new__" = true
  sa : findIn K (.ref C) "__setattr__" = some (some (.builtin "object.__setattr__"))
  ga : findIn K (.ref C) "__getattribute__" = some (some (.builtin "BaseException.__getattribute__"))
  gg : findIn K (.ref C) "__getattr__" = some none
  noN : findIn K (.ref C) f = some none
  iC : findIn K (.ref C) "__init__" = some (some (.ref fI))
  tC : typeIn K (.ref fI) = some (.type "function")
  kC : keepIn K (.ref C) = true
  exC : subIn K (.ref C) (.type "BaseException") = some true
  veC : subIn K (.ref C) (.type "ValueError") = some true
  slf : subIn K (.ref C) (.ref C) = some true
  tyC : typeIn K (.ref C) = some (.type "type")
  hdC : hasDictIn K C = true
  te : exmOne K (.ref C) (.ref B) = some true
  third : nsIn K cStatics "thirdparty.any" = some none
  sup : ks_superIn K C C "__init__" = some (some (.builtin "ValueError.__init__"))
  fn : ∃ (oc : Value) (od : Option Addr) (doc pm : Value) (an : Option Addr) (cda cc : Addr) (ct : Value) (osl : Array (Option Value)) (p1 p2 : Pos) (q : List Pos) (ccl : Value) (cdd : Option Addr) (vs : Array Value) (ccs : Array (Option Value)) (file : Str) (tf : Tok) (cl : Value) (cld : Option Addr) (csl : Array (Option Value)),
    K.lookup fI = some ⟨oc, od, .func (ksFn "__init__" (nm ++ ".__init__") (iA f p1 p2) (iB f s1 s2 q) (iS f) .none .none doc pm an (.ref cda) ct cc), osl⟩ ∧
    ((q.getD 2 ⟨0, 0, 0, 0⟩).endLine == (q.getD 8 ⟨0, 0, 0, 0⟩).line) = true ∧ K.lookup cda = some ⟨ccl, cdd, .fields vs, ccs⟩ ∧ (∃ t, vs[1]? = some (.str (nm ++ ".__init__") t)) ∧ vs[2]? = some (.str file tf) ∧ (P.main.file == file) = true ∧ (List.lookup (Str.ofString "super") P.main.scope.names).isSome = false ∧
    K.lookup cc = some ⟨cl, cld, .cell (some (.ref C)), csl⟩
  len1 : s1.length ≤ 1000
  len2 : s2.length ≤ 1000
theorem super_eval {p1 p2 p3 p4 q1 q2 q3 q4 q5 : Pos} {s1 s2 f : Str} {env : Env} (hp : (p3.endLine == p4.line) = true) :
    eval (.Call (.Attribute (.Call (.Name "super" p1) [] [] p2) "__init__" p3) [.JoinedStr [.Constant (.str s1) 0 q1, .FormattedValue (.Name f q2) (-1) none q3, .Constant (.str s2) 0 q4] q5] [] p4) env = (do
          let ov ← PySem.attributeBase (.Call (.Name "super" p1) [] [] p2) "__init__" env (PySem.eval (.Call (.Name "super" p1) [] [] p2) env)
          PySem.standAt p3.atName
          let __x ← PySem.holding [ov] (PySem.getMethod ov "__init__" (do
      let __do_lift ← importBound (.Call (.Name "super" p1) [] [] p2) env
      pure (__do_lift.getD true)))
          match __x with
            | (cf, first) => PySem.callWith p4 cf first (PySem.backTo p4 (PySem.starEach [.JoinedStr [.Constant (.str s1) 0 q1, .FormattedValue (.Name f q2) (-1) none q3, .Constant (.str s2) 0 q4] q5] env)) []) := by
  have e1 : methodCallPos true (.Call (.Name "super" p1) [] [] p2) env p3 p4 = pure p4 := by
    unfold methodCallPos
    rw [hp]
    rfl
  conv => lhs; unfold eval
  show (do
          let ov ← PySem.attributeBase (.Call (.Name "super" p1) [] [] p2) "__init__" env (PySem.eval (.Call (.Name "super" p1) [] [] p2) env)
          PySem.standAt p3.atName
          let __x ← PySem.holding [ov] (PySem.getMethod ov "__init__" (do
      let __do_lift ← importBound (.Call (.Name "super" p1) [] [] p2) env
      pure (__do_lift.getD true)))
          match __x with
            | (cf, first) => do
              let cp ← methodCallPos true (.Call (.Name "super" p1) [] [] p2) env p3 p4
              PySem.callWith cp cf first (PySem.backTo p4 (PySem.starEach [.JoinedStr [.Constant (.str s1) 0 q1, .FormattedValue (.Name f q2) (-1) none q3, .Constant (.str s2) 0 q4] q5] env)) []) = _
  rw [e1]
  rfl
theorem one_size (v : Value) : [v].length ≤ sizeLine := by
  rw [sizeLine_eq]
  exact (by decide : 1 ≤ 16777216)
structure InitEnd (h h' : Heap) (f : Str) (x C dx t1 : Addr) (v : Value) : Prop where
  keep : ∀ b o, h.get? b = some o → h'.get? b = some o
  obj : h'.get? x = some { cls := .ref C, dict := some dx, data := .fields #[.ref t1, .none, .none, .none, .bool false, .none] }
  dbig : h.objs.size ≤ dx
  dne : dx ≠ x
  ns : h'.Ns1 dx (fun y => if y = f then some v else none)
structure OwnMade (h h' : Heap) (f : Str) (e C d : Addr) (v : Value) : Prop where
  keep : ∀ b o, h.get? b = some o → h'.get? b = some o
  new : h.objs.size ≤ e
  obj : ∃ oe vs, h'.get? e = some oe ∧ oe.cls = .ref C ∧ oe.dict = some d ∧ oe.data = .fields vs ∧ vs[1]? = some .none
  dbig : h.objs.size ≤ d
  dne : d ≠ e
  ns : h'.Ns1 d (fun y => if y = f then some v else none)
section
variable {prog : Program} {w : World} {A : Around} {E : Value → Shared → Prop} {R : Result → Shared → Prop} {s : Shared} {K : Frag} {mg mb : Str → Option Value} {nm f s1 s2 : Str} {C fI B : Addr}
theorem bad_init (T : BadTxt prog K mg nm "at" s1 s2 C fI B) {hp : Heap} {x t0 : Addr} {n : Int} {tk : Tok} (X : K.In hp) (hlim : s.heap.NoLimit) (G : hp.Ns mainGlobals mg) (Bn : hp.Ns builtinsNs mb) (hb : mb "super" = some (.type "super"))
    (kp : ∀ b o, hp.get? b = some o → s.heap.get? b = some o) (hsz : hp.objs.size ≤ s.heap.objs.size) (hpx : hp.get? x = none)
    (hx : s.heap.get? x = some (excO C t0)) (hn : n.natAbs.log2 < 1920) (hl : (s1 ++ Str.ofString (toString n) ++ s2).length ≤ sizeLine) (hroom : A.depth < recursionLimit)
    (hq : ∀ h' tk' dx t1, InitEnd hp h' "at" x C dx t1 (.int n tk) → R (.ok (.ret .none)) { s with heap := h', toks := tk' }) :
    codeAny (model prog w) A (.call (.ref fI) ⟨[.ref x, .int n tk], []⟩) R s := by
  obtain ⟨oc, od, doc, pm, an, cda, cc, ct, osl, p1, p2, q, ccl, cdd, vs, ccs, file, tf, cl, cld, csl, ho, hpos, hcd, ⟨tq, hv1⟩, hv2, hfile, hsup, hcell⟩ := T.fn
  obtain ⟨nm', q', N, bs, bm, sn, sub, ab, col, dd, k0, k1, k2, k3, k5, hC, hbm⟩ := T.cls
  have hcl : clsIn K C = some { name := nm', bases := bs, mro := .ref C :: bm, ns := N, qualname := q', hasDict := true, slotNames := sn, subclasses := sub, abstract := ab, collection := col, hasDel := false } := by unfold clsIn; rw [hC] <;> rfl
  have Xs : K.In s.heap := X.keeps kp
  refine ks_codeAny_call_defAt (binds := [("self", .ref x), ("at", .int n tk)]) hroom (Xs _ _ ho) rfl hlim ⟨cda, _, vs, tq, rfl, Xs _ _ hcd, rfl, hv1⟩ rfl (BindsTo.of_eq (by first | rfl | with_unfolding_all rfl)) (fun y hy => by
    simp only [iS, List.mem_cons, List.not_mem_nil, or_false] at hy
    rcases hy with rfl | rfl | rfl | rfl <;> (intro z; cases z)) (fun y hy => by
    simp only [List.mem_cons, List.not_mem_nil, or_false] at hy
    rcases hy with rfl | rfl <;> rfl) (fun h1 hn1 keep1 => ?_)
  have kp1 : ∀ b o, hp.get? b = some o → h1.get? b = some o := fun b o e => keep1 b o (kp b o e)
  have X1 : K.In h1 := X.keeps kp1
  have hxL : x ≠ s.heap.objs.size := Nat.ne_of_lt (Heap.lt_size hx)
  have F1 : Fr hp s.heap.objs.size h1 _ := ⟨hn1, kp1, hsz⟩
  have N1 : News hp s.heap.objs.size h1 [(x, excObj C t0 none .none)] := fun p hp' => by
    rw [List.mem_singleton.mp hp']
    exact ⟨keep1 _ _ hx, hxL, hpx⟩
  generalize hL : s.heap.objs.size = L at hn1 hxL F1 N1
  have hbm2 : (excClassObj nm' q' C N bs bm true sn sub ab col dd k0 k1 k2 k3 k5 "ValueError.__new__").data = .cls { name := nm', bases := bs, mro := .ref C :: bm, ns := N, qualname := q', hasDict := true, slotNames := sn, subclasses := sub, abstract := ab, collection := col, hasDel := false } := rfl
  show wpAt _ _ (.func _ (ksEnv (nm ++ ".__init__") (iS "at") L fI (.ref cda) cc)) (execs (iB "at" s1 s2 q) (ksEnv (nm ++ ".__init__") (iS "at") L fI (.ref cda) cc)) _ _ _
  dsimp only [iB]
  refine ks_wpAt_execs_cons (ks_wpAt_Expr_any (ks_wpAt_MethodCall (pl := _) ?_ (super_eval hpos)))
  refine ks_wpAt_super_base (cc := cda) (vs := vs) (file := file) (tf := tf) rfl rfl rfl rfl (X1 _ _ ho) rfl rfl rfl (X1 _ _ hcd) rfl hv2 hfile hsup ?_
  refine ks_loadName_global rfl rfl (loadGlobal_builtin (G.keeps kp1) T.noS (Bn.keeps kp1) hb ⟨rfl, ?_⟩)
  refine wpAny_loadName_free (c := cc) (v := .ref C) rfl rfl rfl ⟨_, X1 _ _ hcell, rfl⟩ ?_
  refine wpAny_loadName_local (v := .ref x) rfl rfl hn1 rfl ?_
  refine ks_wpAny_isType_cls (X1 _ _ hC) hbm2 ⟨rfl, ?_⟩
  refine ks_wpAny_call_super (X1 _ _ hC) hbm2 (keep1 _ _ hx) rfl (fun c z => by cases z) (looks_subIn X1 T.slf) (fun h2 hso keep2 => ?_)
  obtain ⟨F2, N2, lt2⟩ := ks_newsPush (s := ⟨h1, s.gens, s.drawn, s.toks + 2, s.os⟩) F1 N1 rfl hso keep2
  have xlt : x < L := by rw [← hL]; exact Heap.lt_size hx
  refine kxs_method kxs_ValueError F2 X N2 List.mem_cons_self (InstAt.of_exc0 N2 (List.mem_cons_of_mem _ List.mem_cons_self)) T.third T.sup T.veC rfl (fun u h3 F3 N3 lt3 => ?_)
  refine kxs_callWith1 N3 List.mem_cons_self ?_
  refine spliced_more ?_
  refine wpAny_JoinedStr (Joins_cons (wpAny_Constant_str ?_))
  have hs1 : s1.length ≤ sizeLine := Nat.le_trans T.len1 (by decide)
  have app_len : ∀ a b : Str, (a ++ b).length = a.length + b.length := fun a b => by
    show (a.cps ++ b.cps).size = _
    rw [Array.size_append]
    rfl
  have hl12 : (s1 ++ Str.ofString (toString n)).length ≤ sizeLine := by
    rw [app_len] at hl
    exact Nat.le_trans (Nat.le_add_right _ _) hl
  have emp : Str.empty ++ s1 = s1 := by
    show Str.mk (#[] ++ s1.cps) = s1
    rw [Array.empty_append]
  refine ⟨s1, _, rfl, by rw [emp]; exact hs1, ?_⟩
  rw [emp]
  refine Joins_cons (FormattedValue_plain (wpAny_Name (wpAny_loadName_local (v := .int n tk) rfl rfl F3.ns rfl ?_) rfl))
  refine formatField_int_small hn ⟨_, _, rfl, hl12, ?_⟩
  refine Joins_cons (wpAny_Constant_str ⟨_, _, rfl, hl, Joins_nil ⟨hl, ?_⟩⟩)
  refine spliced_none ⟨kxs_at N3 List.mem_cons_self, ?_⟩
  have ne32 : ∀ {a b : Addr}, a < b → a ≠ b := fun h => Nat.ne_of_lt h
  have nu : u ≠ x := (Nat.ne_of_gt (lt3 (x, excObj C t0 none .none) (List.mem_cons_of_mem _ List.mem_cons_self)))
  have nso : h1.objs.size ≠ x := (Nat.ne_of_gt (lt2 (x, excObj C t0 none .none) List.mem_cons_self))
  refine kxs_call (nw := fun o => (u, kxs_mw "ValueError.__init__" x) :: (h1.objs.size, ks_superObj C x C) :: [(x, o)]) F3 X N3 F.excBase_ValueError T.ini List.mem_cons_self (.tail nu (.tail nso (.head (fun p hp => absurd hp List.not_mem_nil)))) (one_size _) (fun t' h4 F4 N4 lt4 => ?_)
  show wpAt _ _ _ (execs _ _) _ _ _
  refine ks_wpAt_execs_cons (ks_wpAt_Assign_Attr ?_)
  refine wpAt_of_wpAny (wpAny_Name (wpAny_loadName_local (v := .int n tk) rfl rfl F4.ns rfl ?_) rfl)
  refine wpAny_Name (wpAny_loadName_local (v := .ref x) rfl rfl F4.ns rfl ?_) rfl
  have X4 : K.In h4 := X.keeps F4.keep
  have at4 : h4.get? x = some (excO C t') := (N4 (x, excObj C t' none .none) (by simp)).1
  refine set_plain X4 (ox := excO C t') (od := none) ⟨at4, rfl, rfl, trivial⟩ T.sa ?_
  refine exc_osa X4 at4 hcl (show refsVE (.ref C :: bm) = true from hbm) rfl T.noN (fun h5 tk5 dx keep5 dbig dne at5 ns5 => ?_)
  refine wpAt_of_wpAny (wpAny_execs_nil (hq h5 tk5 dx t' ⟨fun b o e => keep5 b o (fun z => by rw [z, hpx] at e; cases e) (F4.keep b o e), at5, ?_, dne, ns5⟩))
  exact Nat.le_trans (Nat.le_trans F4.above (Nat.le_of_lt F4.ns.lt)) dbig
theorem bad_made (T : BadTxt prog K mg nm "at" s1 s2 C fI B) {n : Int} {tk : Tok} (X : K.In s.heap) (hlim : s.heap.NoLimit) (G : s.heap.Ns mainGlobals mg) (Bn : s.heap.Ns builtinsNs mb) (hb : mb "super" = some (.type "super"))
    (hn : n.natAbs.log2 < 1920) (hl : (s1 ++ Str.ofString (toString n) ++ s2).length ≤ sizeLine) (hroom : A.depth + 1 < recursionLimit)
    (hq : ∀ h' tk' e d, OwnMade s.heap h' "at" e C d (.int n tk) → R (.ok (.ret (.ref e))) { s with heap := h', toks := tk' }) :
    codeAny (model prog w) A (.call (.ref C) ⟨[.int n tk], []⟩) R s := by
  obtain ⟨nm, q, N, bs, bm, sn, sub, ab, col, dd, k0, k1, k2, k3, k5, hC, hbm⟩ := T.cls
  obtain ⟨hp, g, dr, tk0, os⟩ := s
  have k : ∀ b o, hp.get? b = some o → ((hp.push (kdv_tup [.int n tk])).push (excO C hp.objs.size)).get? b = some o := fun b o e => Heap.get?_push_of_some _ (Heap.get?_push_of_some _ e)
  have hget : ((hp.push (kdv_tup [.int n tk])).push (excO C hp.objs.size)).get? (hp.objs.size + 1) = some (excO C hp.objs.size) := by heap_get
  have hpx : hp.get? (hp.objs.size + 1) = none := by
    cases e : hp.get? (hp.objs.size + 1) with
    | none => rfl
    | some o => exact absurd (Nat.lt_of_succ_lt (Heap.lt_size e)) (Nat.lt_irrefl _)
  refine call_own F.excBase_ValueError (fun X => refsVE_contains X bm hbm) (X _ _ hC) (looks_findIn X T.iC) (fun self => bind_fn X self T.tC) (one_size _) ?_
  refine bad_init (s := ⟨(hp.push (kdv_tup [.int n tk])).push (excO C hp.objs.size), g, dr, tk0, os⟩) T X (hlim.keeps k) G Bn hb k (by show hp.objs.size ≤ ((hp.push _).push _).objs.size; rw [Heap.size_push, Heap.size_push]; omega) hpx hget hn hl hroom fun h' tk' dx t1 IE => ?_
  exact ⟨rfl, hq h' tk' (hp.objs.size + 1) dx ⟨IE.keep, Nat.le_succ _, ⟨_, _, IE.obj, rfl, rfl, rfl, rfl⟩, IE.dbig, IE.dne, IE.ns⟩⟩
end
end BadX
end PySem

set_option Elab.async false
set_option linter.all false
set_option maxRecDepth 100000
set_option maxHeartbeats 2000000
namespace PySem
namespace BadX
open PySem.W PySem.Calls PyProof.Rows PySem.HandSPX L2
def isIA (f : Str) (a : Arguments) : Bool := match a with
  | ⟨[], [⟨n1, none, _⟩, ⟨n2, none, _⟩], none, [], [], none, []⟩ => decide (n1 = "self") && decide (n2 = f)
  | _ => false
theorem isIA_ok {f : Str} {a : Arguments} (h : isIA f a = true) : ∃ p1 p2, a = iA f p1 p2 := by
  unfold isIA at h
  split at h
  · rw [Bool.and_eq_true, decide_eq_true_eq, decide_eq_true_eq] at h
    obtain ⟨rfl, rfl⟩ := h
    exact ⟨_, _, rfl⟩
  · cases h
def isIB (f s1 s2 : Str) (b : List Stmt) : Bool := match b with
  | [.Expr (.Call (.Attribute (.Call (.Name n1 _) [] [] _) n2 p2) [.JoinedStr [.Constant (.str a) 0 _, .FormattedValue (.Name n3 _) (-1) none _, .Constant (.str c) 0 _] _] [] p8) _, .Assign [.Attribute (.Name n4 _) n5 _] (.Name n6 _) _] =>
    decide (n1 = "super") && decide (n2 = "__init__") && decide (a = s1) && decide (n3 = f) && decide (c = s2) && decide (n4 = "self") && decide (n5 = f) && decide (n6 = f) && (p2.endLine == p8.line)
  | _ => false
theorem isIB_ok {f s1 s2 : Str} {b : List Stmt} (h : isIB f s1 s2 b = true) : ∃ q : List Pos, b = iB f s1 s2 q ∧ ((q.getD 2 ⟨0, 0, 0, 0⟩).endLine == (q.getD 8 ⟨0, 0, 0, 0⟩).line) = true := by
  unfold isIB at h
  split at h
  · rename_i n1 p0 p1 n2 p2 a p3 n3 p4 p5 c p6 p7 p8 p9 n4 p10 n5 p11 n6 p12 p13
    simp only [Bool.and_eq_true, decide_eq_true_eq] at h
    obtain ⟨⟨⟨⟨⟨⟨⟨⟨rfl, rfl⟩, rfl⟩, rfl⟩, rfl⟩, rfl⟩, rfl⟩, rfl⟩, hp⟩ := h
    exact ⟨[p0, p1, p2, p3, p4, p5, p6, p7, p8, p9, p10, p11, p12, p13], rfl, hp⟩
  · cases h
def codeB (K : Frag) (q file : Str) (cda : Addr) : Bool := match K.lookup cda with
  | some ⟨_, _, .fields vs, _⟩ => (match (vs[1]? : Option Value) with
    | some (.str z _) => decide (z = q)
    | _ => false) && (match (vs[2]? : Option Value) with
    | some (.str z _) => decide (z = file)
    | _ => false)
  | _ => false
def cellB (K : Frag) (cc C : Addr) : Bool := match K.lookup cc with
  | some ⟨_, _, .cell (some (.ref D)), _⟩ => decide (D = C)
  | _ => false
def fdB (K : Frag) (nm f s1 s2 file : Str) (C : Addr) (fd : FuncData) : Bool := match fd with
  | ⟨n, q, pa, .stmts b, sc, gl, [(cn, cc)], .none, .none, _, _, _, .ref cda, _, bn⟩ =>
    decide (n = "__init__") && decide (q = nm ++ ".__init__") && isIA f pa && isIB f s1 s2 b && decide (sc = iS f) && decide (gl = mainGlobals) && decide (cn = "__class__") && decide (bn = builtinsNs) && codeB K (nm ++ ".__init__") file cda && cellB K cc C
  | _ => false
def initB (K : Frag) (nm f s1 s2 file : Str) (C fI : Addr) : Bool := match K.lookup fI with
  | some ⟨_, _, .func fd, _⟩ => fdB K nm f s1 s2 file C fd
  | _ => false
def clsB (K : Frag) (C : Addr) : Bool := match K.lookup C with
  | some ⟨.type t, _, .cls cd, sl⟩ => decide (t = "type") && cd.hasDict && !cd.hasDel && (match cd.mro with
    | .ref C' :: bm => decide (C' = C) && refsVE bm
    | _ => false) && (match sl.toList with
    | [_, _, _, _, some (.builtin n), _] => decide (n = "ValueError.__new__")
    | _ => false)
  | _ => false
theorem clsB_ok {K : Frag} {C : Addr} (h : clsB K C = true) : ∃ nm q N bs bm sn sub ab col dd k0 k1 k2 k3 k5, K.lookup C = some (excClassObj nm q C N bs bm true sn sub ab col dd k0 k1 k2 k3 k5 "ValueError.__new__") ∧ refsVE bm = true := by
  unfold clsB at h
  split at h
  · rename_i t dd cd sl hk
    rw [hk]
    simp only [Bool.and_eq_true, decide_eq_true_eq] at h
    obtain ⟨⟨⟨⟨rfl, hd⟩, hdel⟩, hm⟩, hs⟩ := h
    obtain ⟨cn, cb, cm, cns, cq, chd, csn, csub, cab, ccol, cdel⟩ := cd
    simp only at hd hdel hm
    subst hd
    have hdel : cdel = false := by simpa using hdel
    subst hdel
    split at hm
    · rename_i C' bm
      simp only [Bool.and_eq_true, decide_eq_true_eq] at hm
      obtain ⟨rfl, hr⟩ := hm
      split at hs
      · rename_i a0 a1 a2 a3 n a5 hl
        have hn : n = "ValueError.__new__" := of_decide_eq_true hs
        subst hn
        have e : sl = #[a0, a1, a2, a3, some (.builtin "ValueError.__new__"), a5] := by
          rw [← Array.toArray_toList (xs := sl), hl]
        subst e
        exact ⟨_, _, _, _, _, _, _, _, _, _, _, _, _, _, _, rfl, hr⟩
      · cases hs
    · cases hm
  · cases h
def badB (K : Frag) (nm f s1 s2 file : Str) : Bool :=
  let C := He.ga K nm
  let fI := He.ma K C "__init__"
  clsB K C && excInitIn K C veTail "ValueError.__new__" &&
  decide (findIn K (.ref C) "__setattr__" = some (some (.builtin "object.__setattr__"))) &&
  decide (findIn K (.ref C) "__getattribute__" = some (some (.builtin "BaseException.__getattribute__"))) &&
  decide (findIn K (.ref C) "__getattr__" = some none) &&
  decide (findIn K (.ref C) f = some none) &&
  decide (findIn K (.ref C) "__init__" = some (some (.ref fI))) &&
  decide (typeIn K (.ref fI) = some (.type "function")) &&
  keepIn K (.ref C) &&
  decide (subIn K (.ref C) (.type "BaseException") = some true) &&
  decide (subIn K (.ref C) (.type "ValueError") = some true) &&
  decide (subIn K (.ref C) (.ref C) = some true) &&
  decide (typeIn K (.ref C) = some (.type "type")) &&
  hasDictIn K C &&
  decide (exmOne K (.ref C) (.ref (He.ga K "BeatError")) = some true) &&
  decide (nsIn K cStatics "thirdparty.any" = some none) &&
  decide (ks_superIn K C C "__init__" = some (some (.builtin "ValueError.__init__"))) &&
  initB K nm f s1 s2 file C fI
theorem badB_ok {P : Program} {K : Frag} {mg : Str → Option Value} {nm f s1 s2 file : Str} (h : badB K nm f s1 s2 file = true) (gC : mg nm = some (.ref (He.ga K nm))) (noS : mg "super" = none)
    (hf : (P.main.file == file) = true) (hs : (List.lookup (Str.ofString "super") P.main.scope.names).isSome = false) (l1 : s1.length ≤ 1000) (l2 : s2.length ≤ 1000) :
    BadTxt P K mg nm f s1 s2 (He.ga K nm) (He.ma K (He.ga K nm) "__init__") (He.ga K "BeatError") := by
  unfold badB at h
  simp only [Bool.and_eq_true, decide_eq_true_eq] at h
  obtain ⟨⟨⟨⟨⟨⟨⟨⟨⟨⟨⟨⟨⟨⟨⟨⟨⟨h1, h2⟩, h3⟩, h4⟩, h5⟩, h6⟩, h7⟩, h8⟩, h9⟩, h10⟩, h11⟩, h12⟩, h13⟩, h14⟩, h15⟩, h16⟩, h17⟩, h18⟩ := h
  refine ⟨gC, noS, clsB_ok h1, h2, h3, h4, h5, h6, h7, h8, h9, h10, h11, h12, h13, h14, h15, h16, h17, ?_, l1, l2⟩
  unfold initB at h18
  split at h18
  · rename_i oc od fd osl hk
    unfold fdB at h18
    split at h18
    · rename_i n q pa b sc gl cn cc doc pm an cda ct bn
      simp only [Bool.and_eq_true, decide_eq_true_eq] at h18
      obtain ⟨⟨⟨⟨⟨⟨⟨⟨⟨rfl, rfl⟩, ha⟩, hb⟩, rfl⟩, rfl⟩, rfl⟩, rfl⟩, hc⟩, hce⟩ := h18
      obtain ⟨p1, p2, rfl⟩ := isIA_ok ha
      obtain ⟨qs, rfl, hp⟩ := isIB_ok hb
      unfold codeB at hc
      split at hc
      · rename_i ccl cdd vs ccs hk2
        simp only [Bool.and_eq_true] at hc
        obtain ⟨hc1, hc2⟩ := hc
        unfold cellB at hce
        split at hce
        · rename_i cl cld D csl hk3
          have hD : D = He.ga K nm := of_decide_eq_true hce
          subst hD
          split at hc1
          · rename_i z1 t1 hv1
            have e1 := of_decide_eq_true hc1
            split at hc2
            · rename_i z2 t2 hv2
              have e2 := of_decide_eq_true hc2
              subst e1 e2
              exact ⟨oc, od, doc, pm, an, cda, cc, ct, osl, p1, p2, qs, ccl, cdd, vs, ccs, _, t2, cl, cld, csl, hk, hp, hk2, ⟨t1, hv1⟩, hv2, hf, hs, hk3⟩
            · cases hc2
          · cases hc1
        · cases hce
      · cases hc
    · cases h18
  · cases h18
def isB (K : Frag) (nm : Str) (all : List Str) : Bool :=
  let C := He.ga K nm
  (all.all fun x => decide (kitOne K (.ref C) (.ref (He.ga K x)) = some (decide (x = nm)))) &&
  decide (kitOne K (.ref C) (.type "ValueError") = some true) && xfB K C && (clsIn K C).isSome &&
  decide (findIn K (.ref C) "__class__" = some (some (.builtin "object.__class__"))) &&
  decide (specialIn K (.builtin "object.__class__") "__get__" = some (some (.builtin "getset_descriptor.__get__"))) &&
  decide (takesIn K (.builtin "object.__class__") = some true) && decide (mroIn K C (.type "object") = some true)
structure IsT (K : Frag) (nm : Str) (all : List Str) : Prop where
  kit : ∀ x ∈ all, kitOne K (.ref (He.ga K nm)) (.ref (He.ga K x)) = some (decide (x = nm))
  ve : kitOne K (.ref (He.ga K nm)) (.type "ValueError") = some true
  xf : XfC K (He.ga K nm)
  cl : (clsIn K (He.ga K nm)).isSome = true
  ex : L2.ExcC K (He.ga K nm)
theorem isB_ok {K : Frag} {nm : Str} {all : List Str} (h : isB K nm all = true) : IsT K nm all := by
  unfold isB at h
  simp only [Bool.and_eq_true, decide_eq_true_eq, List.all_eq_true] at h
  obtain ⟨⟨⟨⟨⟨⟨⟨h1, h2⟩, h3⟩, h4⟩, h5⟩, h6⟩, h7⟩, h8⟩ := h
  have x := xfB_ok h3
  exact ⟨h1, h2, x, h4, ⟨x.ga, x.gg, x.exC, x.hdC, h5, h6, h7, h8⟩⟩
end BadX
end PySem

set_option Elab.async false
set_option linter.all false
set_option maxRecDepth 100000
set_option maxHeartbeats 1000000
namespace SB
open PySem PySem.W
def keysB (K : Frag) (d : Addr) (ks : List Str) : Bool := match K.lookup d with
  | some ⟨_, _, .dict es _, _⟩ => es.toList.all fun e => !e.refKey && ks.any fun n => e.key.isStr n
  | _ => false
def KeysT (K : Frag) (d : Addr) (ks : List Str) : Prop := ∀ z : Str, z ∉ ks → nsIn K d z = some none
theorem keysB_ok {K : Frag} {d : Addr} {ks : List Str} (h : keysB K d ks = true) : KeysT K d ks := fun z hz => by
  unfold keysB at h
  unfold nsIn
  cases q : K.lookup d with
  | none => rw [q] at h; cases h
  | some o =>
    obtain ⟨oc, od, dt, osl⟩ := o
    rw [q] at h
    cases dt with
    | dict es n =>
      have h : (es.toList.all fun e => !e.refKey && ks.any fun n => e.key.isStr n) = true := h
      rw [List.all_eq_true] at h
      have hf : es.toList.find? (·.key.isStr z) = none := by
        rw [List.find?_eq_none]
        intro e he hs
        obtain ⟨h1, h2⟩ := Bool.and_eq_true_iff.mp (h e he)
        obtain ⟨n, hn, hs2⟩ := List.any_eq_true.mp h2
        have : n = z := by
          cases hk : e.key with
          | str s t =>
            rw [hk] at hs hs2
            simp [Value.isStr] at hs hs2
            exact hs2.symm.trans hs
          | _ => rw [hk] at hs; cases hs
        exact hz (this ▸ hn)
      have hr : es.toList.any (·.refKey) = false := by
        rw [List.any_eq_false]
        intro e he
        have h1 := (Bool.and_eq_true_iff.mp (h e he)).1
        simpa using h1
      show (match es.toList.find? (·.key.isStr z) with
        | some e => some (some e.val)
        | none => if es.toList.any (·.refKey) then none else some none) = some none
      rw [hf, hr]
      rfl
    | _ => cases h
end SB

set_option Elab.async false
set_option linter.all false
set_option maxRecDepth 100000
set_option maxHeartbeats 2000000
namespace SB
open PySem PySem.Spec PyProof.Rows L2
def top (i : Nat) : Stmt := PySem.Challenge.pw_stealbeats_k01_programs_refused.main.body.getD i (.Pass ⟨0, 0, 0, 0⟩)
abbrev s_is_number : Stmt := top 26
abbrev s_is_part : Stmt := top 27
abbrev s_is_one_of : Stmt := top 28
abbrev s_is_row : Stmt := top 29
abbrev s_is_work : Stmt := top 30
abbrev s_is_ask : Stmt := top 31
abbrev s_is_window : Stmt := top 32
abbrev s_is_pair : Stmt := top 33
abbrev s_is_claim : Stmt := top 34
abbrev s_is_deed : Stmt := top 35
abbrev s_is_moved : Stmt := top 36
abbrev s_is_told : Stmt := top 37
abbrev s_check_program : Stmt := top 38
abbrev s_check_works : Stmt := top 39
abbrev s_check_memory : Stmt := top 40
abbrev s_check_asks : Stmt := top 41
abbrev s_check_hall : Stmt := top 42
abbrev s_check_beats : Stmt := top 43
abbrev s_check_window : Stmt := top 44
abbrev s_check_windowed : Stmt := top 45
abbrev s_check_claim : Stmt := top 46
abbrev s_check_pair : Stmt := top 47
abbrev s_check_mark : Stmt := top 48
abbrev s_check_address : Stmt := top 49
abbrev s_check_log : Stmt := top 50
abbrev s_check_straight : Stmt := top 51
abbrev s_Going_init : Stmt := inClass (top 53) 0
abbrev s_Work_init : Stmt := inClass (top 54) 0
abbrev s_Work_held_off : Stmt := inClass (top 54) 1
abbrev s_Work_may_take : Stmt := inClass (top 54) 2
abbrev s_Work_move : Stmt := inClass (top 54) 3
abbrev s_Work_fetch : Stmt := inClass (top 54) 4
abbrev s_Work_lay : Stmt := inClass (top 54) 5
abbrev s_Device_init : Stmt := inClass (top 55) 0
abbrev s_Device_is_on : Stmt := inClass (top 55) 1
abbrev s_Device_wake : Stmt := inClass (top 55) 2
abbrev s_Device_start : Stmt := inClass (top 55) 3
abbrev s_Device_move : Stmt := inClass (top 55) 4
abbrev s_Device_taker : Stmt := inClass (top 55) 5
abbrev s_Device_numbers_on : Stmt := inClass (top 55) 6
abbrev s_Device_shown_on : Stmt := inClass (top 55) 7
abbrev s_beats_of : Stmt := top 60
abbrev s_word_of : Stmt := top 61
abbrev s_Machine_init : Stmt := inClass (top 62) 0
abbrev s_Machine_ended : Stmt := inClass (top 62) 1
abbrev s_Machine_wanted : Stmt := inClass (top 62) 2
abbrev s_Machine_step : Stmt := inClass (top 62) 3
abbrev s_Machine_use_word : Stmt := inClass (top 62) 4
abbrev s_Machine_finish : Stmt := inClass (top 62) 5
abbrev s_Machine_reckoned : Stmt := inClass (top 62) 6
abbrev s_Floor_init : Stmt := inClass (top 64) 0
abbrev s_Floor_pass_beat : Stmt := inClass (top 64) 1
abbrev s_Floor_seen : Stmt := inClass (top 64) 2
abbrev s_Hall_init : Stmt := inClass (top 66) 0
abbrev s_Hall_beat : Stmt := inClass (top 66) 1
abbrev s_Hall_shown : Stmt := inClass (top 66) 2
abbrev s_run : Stmt := top 68
abbrev s_Watch_init : Stmt := inClass (top 70) 0
abbrev s_Watch_run : Stmt := inClass (top 70) 1
abbrev s_Watch_run_till : Stmt := inClass (top 70) 2
abbrev s_Watch_step : Stmt := inClass (top 70) 3
abbrev s_Watch_note_get : Stmt := inClass (top 70) 4
abbrev s_check_ahead : Stmt := top 72
abbrev s_watched : Stmt := top 73
abbrev s_row_times : Stmt := top 74
abbrev s_times : Stmt := top 75
abbrev s_overs : Stmt := top 76
abbrev s_least_and_most : Stmt := top 77
abbrev s_spread : Stmt := top 78
abbrev s_judged : Stmt := top 80
abbrev s_lays_at : Stmt := top 82
abbrev s_laid_ahead : Stmt := top 83
abbrev s_is_torn : Stmt := top 84
abbrev s_tears : Stmt := top 85
abbrev s_is_whole : Stmt := top 86
abbrev s_tears_within : Stmt := top 87
abbrev s_torns : Stmt := top 88
abbrev s_first_torn : Stmt := top 89
abbrev s_is_over : Stmt := top 91
abbrev s_is_kept : Stmt := top 92
abbrev s_holds : Stmt := top 93
abbrev s_leans : Stmt := top 94
abbrev s_part_text : Stmt := top 97
abbrev s_row_text : Stmt := top 98
abbrev s_written : Stmt := top 99
abbrev s_is_always_whole : Stmt := top 102
abbrev s_fewest : Stmt := top 103
abbrev s_rests : Stmt := top 104
abbrev s_guards : Stmt := top 105
abbrev s_deeds : Stmt := top 107
abbrev s_sights : Stmt := top 108
abbrev s_worths : Stmt := top 109
abbrev s_l_dice : Stmt := top 111
abbrev s_l_off : Stmt := top 112
abbrev s_l_word : Stmt := top 113
abbrev s_l_are : Stmt := top 114
abbrev s_l_row : Stmt := top 115
abbrev s_l_program : Stmt := top 116
abbrev s_l_is : Stmt := top 117
abbrev s_l_is_row : Stmt := top 118
abbrev s_l_first_row : Stmt := top 119
abbrev s_l_odd : Stmt := top 120
abbrev s_l_bent_row : Stmt := top 121
abbrev s_l_doors : Stmt := top 122
abbrev s_l_windows : Stmt := top 123
abbrev s_law : Stmt := top 124
theorem sc_is_number : FnScope ["value", "low", "high"] ["value", "low", "high"] (defScope s_is_number) := ⟨rfl, rfl, rfl, by decide +kernel, rfl, by decide +kernel, by decide +kernel⟩
theorem sc_is_part : FnScope ["value", "kind", "low", "high"] ["value", "kind"] (defScope s_is_part) := ⟨rfl, rfl, rfl, by decide +kernel, rfl, by decide +kernel, by decide +kernel⟩
theorem sc_is_one_of : FnScope ["value", "many"] ["value", "many"] (defScope s_is_one_of) := ⟨rfl, rfl, rfl, by decide +kernel, rfl, by decide +kernel, by decide +kernel⟩
theorem sc_is_row : FnScope ["row", "row_count", "form", "value", "kind", "fits"] ["row", "row_count"] (defScope s_is_row) := ⟨rfl, rfl, rfl, by decide +kernel, rfl, by decide +kernel, by decide +kernel⟩
theorem sc_is_work : FnScope ["work", "work_count", "begin", "goal", "many", "block", "greed", "mark", "follow", "moves", "held"] ["work", "work_count"] (defScope s_is_work) := ⟨rfl, rfl, rfl, by decide +kernel, rfl, by decide +kernel, by decide +kernel⟩
theorem sc_is_ask : FnScope ["ask", "work_count", "earliest", "when", "work"] ["ask", "work_count", "earliest"] (defScope s_is_ask) := ⟨rfl, rfl, rfl, by decide +kernel, rfl, by decide +kernel, by decide +kernel⟩
theorem sc_is_window : FnScope ["work", "low", "high", "works"] ["work", "low", "high", "works"] (defScope s_is_window) := ⟨rfl, rfl, rfl, by decide +kernel, rfl, by decide +kernel, by decide +kernel⟩
theorem sc_is_pair : FnScope ["row", "program"] ["row", "program"] (defScope s_is_pair) := ⟨rfl, rfl, rfl, by decide +kernel, rfl, by decide +kernel, by decide +kernel⟩
theorem sc_is_claim : FnScope ["claim", "program", "works", "work", "row", "low", "high", "one", "other", "stretch"] ["claim", "program", "works"] (defScope s_is_claim) := ⟨rfl, rfl, rfl, by decide +kernel, rfl, by decide +kernel, by decide +kernel⟩
theorem sc_is_deed : FnScope ["told", "deed", "address", "word"] ["told"] (defScope s_is_deed) := ⟨rfl, rfl, rfl, by decide +kernel, rfl, by decide +kernel, by decide +kernel⟩
theorem sc_is_moved : FnScope ["told"] ["told"] (defScope s_is_moved) := ⟨rfl, rfl, rfl, by decide +kernel, rfl, by decide +kernel, by decide +kernel⟩
theorem sc_is_told : FnScope ["beat", "moved", "did"] ["beat"] (defScope s_is_told) := ⟨rfl, rfl, rfl, by decide +kernel, rfl, by decide +kernel, by decide +kernel⟩
theorem sc_check_program : FnScope ["program", "at", "row"] ["program"] (defScope s_check_program) := ⟨rfl, rfl, rfl, by decide +kernel, rfl, by decide +kernel, by decide +kernel⟩
theorem sc_check_works : FnScope ["works", "at", "work"] ["works"] (defScope s_check_works) := ⟨rfl, rfl, rfl, by decide +kernel, rfl, by decide +kernel, by decide +kernel⟩
theorem sc_check_memory : FnScope ["memory", "word"] ["memory"] (defScope s_check_memory) := ⟨rfl, rfl, rfl, by decide +kernel, rfl, by decide +kernel, by decide +kernel⟩
theorem sc_check_asks : FnScope ["asks", "works", "earliest", "at", "ask"] ["asks", "works"] (defScope s_check_asks) := ⟨rfl, rfl, rfl, by decide +kernel, rfl, by decide +kernel, by decide +kernel⟩
theorem sc_check_hall : FnScope ["program", "works", "memory", "asks"] ["program", "works", "memory", "asks"] (defScope s_check_hall) := ⟨rfl, rfl, rfl, by decide +kernel, rfl, by decide +kernel, by decide +kernel⟩
theorem sc_check_beats : FnScope ["beats"] ["beats"] (defScope s_check_beats) := ⟨rfl, rfl, rfl, by decide +kernel, rfl, by decide +kernel, by decide +kernel⟩
theorem sc_check_window : FnScope ["work", "low", "high", "works"] ["work", "low", "high", "works"] (defScope s_check_window) := ⟨rfl, rfl, rfl, by decide +kernel, rfl, by decide +kernel, by decide +kernel⟩
theorem sc_check_windowed : FnScope ["program", "works", "memory", "work", "low", "high"] ["program", "works", "memory", "work", "low", "high"] (defScope s_check_windowed) := ⟨rfl, rfl, rfl, by decide +kernel, rfl, by decide +kernel, by decide +kernel⟩
theorem sc_check_claim : FnScope ["claim", "program", "works"] ["claim", "program", "works"] (defScope s_check_claim) := ⟨rfl, rfl, rfl, by decide +kernel, rfl, by decide +kernel, by decide +kernel⟩
theorem sc_check_pair : FnScope ["row", "program"] ["row", "program"] (defScope s_check_pair) := ⟨rfl, rfl, rfl, by decide +kernel, rfl, by decide +kernel, by decide +kernel⟩
theorem sc_check_mark : FnScope ["mark"] ["mark"] (defScope s_check_mark) := ⟨rfl, rfl, rfl, by decide +kernel, rfl, by decide +kernel, by decide +kernel⟩
theorem sc_check_address : FnScope ["address", "memory"] ["address", "memory"] (defScope s_check_address) := ⟨rfl, rfl, rfl, by decide +kernel, rfl, by decide +kernel, by decide +kernel⟩
theorem sc_check_log : FnScope ["log", "at", "beat"] ["log"] (defScope s_check_log) := ⟨rfl, rfl, rfl, by decide +kernel, rfl, by decide +kernel, by decide +kernel⟩
theorem sc_check_straight : FnScope ["program", "row"] ["program"] (defScope s_check_straight) := ⟨rfl, rfl, rfl, by decide +kernel, rfl, by decide +kernel, by decide +kernel⟩
theorem sc_Going_init : FnScope ["self", "number"] ["self", "number"] (defScope s_Going_init) := ⟨rfl, rfl, rfl, by decide +kernel, rfl, by decide +kernel, by decide +kernel⟩
theorem sc_Work_init : FnScope ["self", "begin", "goal", "many", "block", "greed", "mark", "follow"] ["self", "begin", "goal", "many", "block", "greed", "mark", "follow"] (defScope s_Work_init) := ⟨rfl, rfl, rfl, by decide +kernel, rfl, by decide +kernel, by decide +kernel⟩
theorem sc_Work_held_off : FnScope ["self", "marks"] ["self", "marks"] (defScope s_Work_held_off) := ⟨rfl, rfl, rfl, by decide +kernel, rfl, by decide +kernel, by decide +kernel⟩
theorem sc_Work_may_take : FnScope ["self", "wanted", "took"] ["self", "wanted", "took"] (defScope s_Work_may_take) := ⟨rfl, rfl, rfl, by decide +kernel, rfl, by decide +kernel, by decide +kernel⟩
theorem sc_Work_move : FnScope ["self", "when", "words"] ["self", "when", "words"] (defScope s_Work_move) := ⟨rfl, rfl, rfl, by decide +kernel, rfl, by decide +kernel, by decide +kernel⟩
theorem sc_Work_fetch : FnScope ["self", "words", "going", "address"] ["self", "words"] (defScope s_Work_fetch) := ⟨rfl, rfl, rfl, by decide +kernel, rfl, by decide +kernel, by decide +kernel⟩
theorem sc_Work_lay : FnScope ["self", "when", "words", "going", "address", "word"] ["self", "when", "words"] (defScope s_Work_lay) := ⟨rfl, rfl, rfl, by decide +kernel, rfl, by decide +kernel, by decide +kernel⟩
theorem sc_Device_init : FnScope ["self", "works", "work"] ["self", "works"] (defScope s_Device_init) := ⟨rfl, rfl, rfl, by decide +kernel, rfl, by decide +kernel, by decide +kernel⟩
theorem sc_Device_is_on : FnScope ["self", "number"] ["self", "number"] (defScope s_Device_is_on) := ⟨rfl, rfl, rfl, by decide +kernel, rfl, by decide +kernel, by decide +kernel⟩
theorem sc_Device_wake : FnScope ["self", "asked", "number"] ["self", "asked"] (defScope s_Device_wake) := ⟨rfl, rfl, rfl, by decide +kernel, rfl, by decide +kernel, by decide +kernel⟩
theorem sc_Device_start : FnScope ["self", "number", "work"] ["self", "number"] (defScope s_Device_start) := ⟨rfl, rfl, rfl, by decide +kernel, rfl, by decide +kernel, by decide +kernel⟩
theorem sc_Device_move : FnScope ["self", "when", "wanted", "marks", "words", "number", "work", "deed", "address", "word"] ["self", "when", "wanted", "marks", "words"] (defScope s_Device_move) := ⟨rfl, rfl, rfl, by decide +kernel, rfl, by decide +kernel, by decide +kernel⟩
theorem sc_Device_taker : FnScope ["self", "wanted", "marks", "number", "work"] ["self", "wanted", "marks"] (defScope s_Device_taker) := ⟨rfl, rfl, rfl, by decide +kernel, rfl, by decide +kernel, by decide +kernel⟩
theorem sc_Device_numbers_on : FnScope ["self", "number"] ["self"] (defScope s_Device_numbers_on) := ⟨rfl, rfl, rfl, by decide +kernel, rfl, by decide +kernel, by decide +kernel⟩
theorem sc_Device_shown_on : FnScope ["self", "on", "number", "going"] ["self"] (defScope s_Device_shown_on) := ⟨rfl, rfl, rfl, by decide +kernel, rfl, by decide +kernel, by decide +kernel⟩
theorem sc_beats_of : FnScope ["row"] ["row"] (defScope s_beats_of) := ⟨rfl, rfl, rfl, by decide +kernel, rfl, by decide +kernel, by decide +kernel⟩
theorem sc_word_of : FnScope ["row", "spent", "cells", "cell", "address", "holder"] ["row", "spent", "cells"] (defScope s_word_of) := ⟨rfl, rfl, rfl, by decide +kernel, rfl, by decide +kernel, by decide +kernel⟩
theorem sc_Machine_init : FnScope ["self", "program"] ["self", "program"] (defScope s_Machine_init) := ⟨rfl, rfl, rfl, by decide +kernel, rfl, by decide +kernel, by decide +kernel⟩
theorem sc_Machine_ended : FnScope ["self"] ["self"] (defScope s_Machine_ended) := ⟨rfl, rfl, rfl, by decide +kernel, rfl, by decide +kernel, by decide +kernel⟩
theorem sc_Machine_wanted : FnScope ["self"] ["self"] (defScope s_Machine_wanted) := ⟨rfl, rfl, rfl, by decide +kernel, rfl, by decide +kernel, by decide +kernel⟩
theorem sc_Machine_step : FnScope ["self", "words", "device", "wanted", "told", "row"] ["self", "words", "device"] (defScope s_Machine_step) := ⟨rfl, rfl, rfl, by decide +kernel, rfl, by decide +kernel, by decide +kernel⟩
theorem sc_Machine_use_word : FnScope ["self", "wanted", "words", "deed", "place", "cell", "address"] ["self", "wanted", "words"] (defScope s_Machine_use_word) := ⟨rfl, rfl, rfl, by decide +kernel, rfl, by decide +kernel, by decide +kernel⟩
theorem sc_Machine_finish : FnScope ["self", "row", "device", "target", "cell", "work", "mark", "other"] ["self", "row", "device"] (defScope s_Machine_finish) := ⟨rfl, rfl, rfl, by decide +kernel, rfl, by decide +kernel, by decide +kernel⟩
theorem sc_Machine_reckoned : FnScope ["self", "deed", "worth", "other", "device"] ["self", "deed", "worth", "other", "device"] (defScope s_Machine_reckoned) := ⟨rfl, rfl, rfl, by decide +kernel, rfl, by decide +kernel, by decide +kernel⟩
theorem sc_Floor_init : FnScope ["self", "program", "works", "memory", "asks"] ["self", "program", "works", "memory", "asks"] (defScope s_Floor_init) := ⟨rfl, rfl, rfl, by decide +kernel, rfl, by decide +kernel, by decide +kernel⟩
theorem sc_Floor_pass_beat : FnScope ["self", "wanted", "moved", "done", "when", "work"] ["self"] (defScope s_Floor_pass_beat) := ⟨rfl, rfl, rfl, by decide +kernel, rfl, by decide +kernel, by decide +kernel⟩
theorem sc_Floor_seen : FnScope ["self", "machine", "row"] ["self"] (defScope s_Floor_seen) := ⟨rfl, rfl, rfl, by decide +kernel, rfl, by decide +kernel, by decide +kernel⟩
theorem sc_Hall_init : FnScope ["self", "program", "works", "memory", "asks"] ["self", "program", "works", "memory", "asks"] (defScope s_Hall_init) := ⟨rfl, rfl, rfl, by decide +kernel, rfl, by decide +kernel, by decide +kernel⟩
theorem sc_Hall_beat : FnScope ["self"] ["self"] (defScope s_Hall_beat) := ⟨rfl, rfl, rfl, by decide +kernel, rfl, by decide +kernel, by decide +kernel⟩
theorem sc_Hall_shown : FnScope ["self"] ["self"] (defScope s_Hall_shown) := ⟨rfl, rfl, rfl, by decide +kernel, rfl, by decide +kernel, by decide +kernel⟩
theorem sc_run : FnScope ["program", "works", "memory", "asks", "beats", "hall", "told", "done"] ["program", "works", "memory", "asks", "beats"] (defScope s_run) := ⟨rfl, rfl, rfl, by decide +kernel, rfl, by decide +kernel, by decide +kernel⟩
theorem sc_Watch_init : FnScope ["self", "program", "works", "memory", "asks"] ["self", "program", "works", "memory", "asks"] (defScope s_Watch_init) := ⟨rfl, rfl, rfl, by decide +kernel, rfl, by decide +kernel, by decide +kernel⟩
theorem sc_Watch_run : FnScope ["self", "beats", "done"] ["self", "beats"] (defScope s_Watch_run) := ⟨rfl, rfl, rfl, by decide +kernel, rfl, by decide +kernel, by decide +kernel⟩
theorem sc_Watch_run_till : FnScope ["self", "row", "beats"] ["self", "row", "beats"] (defScope s_Watch_run_till) := ⟨rfl, rfl, rfl, by decide +kernel, rfl, by decide +kernel, by decide +kernel⟩
theorem sc_Watch_step : FnScope ["self", "floor", "when", "row", "moved", "did", "last"] ["self"] (defScope s_Watch_step) := ⟨rfl, rfl, rfl, by decide +kernel, rfl, by decide +kernel, by decide +kernel⟩
theorem sc_Watch_note_get : FnScope ["self", "row", "when", "address", "last"] ["self", "row", "when", "address", "last"] (defScope s_Watch_note_get) := ⟨rfl, rfl, rfl, by decide +kernel, rfl, by decide +kernel, by decide +kernel⟩
theorem sc_check_ahead : FnScope ["program", "works", "asks"] ["program", "works", "asks"] (defScope s_check_ahead) := ⟨rfl, rfl, rfl, by decide +kernel, rfl, by decide +kernel, by decide +kernel⟩
theorem sc_watched : FnScope ["program", "works", "asks", "watch"] ["program", "works", "asks"] (defScope s_watched) := ⟨rfl, rfl, rfl, by decide +kernel, rfl, by decide +kernel, by decide +kernel⟩
theorem sc_row_times : FnScope ["program", "works", "asks", "watch", "row"] ["program", "works", "asks"] (defScope s_row_times) := ⟨rfl, rfl, rfl, by decide +kernel, rfl, by decide +kernel, by decide +kernel⟩
theorem sc_times : FnScope ["program", "works", "asks"] ["program", "works", "asks"] (defScope s_times) := ⟨rfl, rfl, rfl, by decide +kernel, rfl, by decide +kernel, by decide +kernel⟩
theorem sc_overs : FnScope ["program", "works", "asks", "told", "going", "whole"] ["program", "works", "asks"] (defScope s_overs) := ⟨rfl, rfl, rfl, by decide +kernel, rfl, by decide +kernel, by decide +kernel⟩
theorem sc_least_and_most : FnScope ["beats", "done", "most", "when"] ["beats"] (defScope s_least_and_most) := ⟨rfl, rfl, rfl, by decide +kernel, rfl, by decide +kernel, by decide +kernel⟩
theorem sc_spread : FnScope ["program", "works", "work", "low", "high", "told", "when", "row", "beats"] ["program", "works", "work", "low", "high"] (defScope s_spread) := ⟨rfl, rfl, rfl, by decide +kernel, rfl, by decide +kernel, by decide +kernel⟩
theorem sc_judged : FnScope ["program", "works", "memory", "asks", "log", "hall", "at", "beat"] ["program", "works", "memory", "asks", "log"] (defScope s_judged) := ⟨rfl, rfl, rfl, by decide +kernel, rfl, by decide +kernel, by decide +kernel⟩
theorem sc_lays_at : FnScope ["work", "address", "size", "goal", "many"] ["work", "address", "size"] (defScope s_lays_at) := ⟨rfl, rfl, rfl, by decide +kernel, rfl, by decide +kernel, by decide +kernel⟩
theorem sc_laid_ahead : FnScope ["going", "got", "when", "address", "at", "place"] ["going", "got"] (defScope s_laid_ahead) := ⟨rfl, rfl, rfl, by decide +kernel, rfl, by decide +kernel, by decide +kernel⟩
theorem sc_is_torn : FnScope ["pair", "going", "work", "size", "row", "first", "second"] ["pair", "going", "work", "size"] (defScope s_is_torn) := ⟨rfl, rfl, rfl, by decide +kernel, rfl, by decide +kernel, by decide +kernel⟩
theorem sc_tears : FnScope ["watch", "pairs", "works", "size", "told", "pair", "going"] ["watch", "pairs", "works", "size"] (defScope s_tears) := ⟨rfl, rfl, rfl, by decide +kernel, rfl, by decide +kernel, by decide +kernel⟩
theorem sc_is_whole : FnScope ["watch", "works", "size", "row", "pairs", "pair"] ["watch", "works", "size", "row"] (defScope s_is_whole) := ⟨rfl, rfl, rfl, by decide +kernel, rfl, by decide +kernel, by decide +kernel⟩
theorem sc_tears_within : FnScope ["program", "works", "memory", "asks", "beats", "watch"] ["program", "works", "memory", "asks", "beats"] (defScope s_tears_within) := ⟨rfl, rfl, rfl, by decide +kernel, rfl, by decide +kernel, by decide +kernel⟩
theorem sc_torns : FnScope ["program", "works", "memory", "asks", "beats"] ["program", "works", "memory", "asks", "beats"] (defScope s_torns) := ⟨rfl, rfl, rfl, by decide +kernel, rfl, by decide +kernel, by decide +kernel⟩
theorem sc_first_torn : FnScope ["program", "works", "memory", "work", "low", "high", "when"] ["program", "works", "memory", "work", "low", "high"] (defScope s_first_torn) := ⟨rfl, rfl, rfl, by decide +kernel, rfl, by decide +kernel, by decide +kernel⟩
theorem sc_is_over : FnScope ["watch", "work", "row"] ["watch", "work", "row"] (defScope s_is_over) := ⟨rfl, rfl, rfl, by decide +kernel, rfl, by decide +kernel, by decide +kernel⟩
theorem sc_is_kept : FnScope ["watch", "low", "high", "one", "other", "behind", "until", "going", "when", "address"] ["watch", "low", "high", "one", "other"] (defScope s_is_kept) := ⟨rfl, rfl, rfl, by decide +kernel, rfl, by decide +kernel, by decide +kernel⟩
theorem sc_holds : FnScope ["claim", "watch", "works", "size"] ["claim", "watch", "works", "size"] (defScope s_holds) := ⟨rfl, rfl, rfl, by decide +kernel, rfl, by decide +kernel, by decide +kernel⟩
theorem sc_leans : FnScope ["program", "works", "memory", "work", "low", "high", "claim", "when", "watch"] ["program", "works", "memory", "work", "low", "high", "claim"] (defScope s_leans) := ⟨rfl, rfl, rfl, by decide +kernel, rfl, by decide +kernel, by decide +kernel⟩
theorem sc_part_text : FnScope ["part"] ["part"] (defScope s_part_text) := ⟨rfl, rfl, rfl, by decide +kernel, rfl, by decide +kernel, by decide +kernel⟩
theorem sc_row_text : FnScope ["row", "part"] ["row"] (defScope s_row_text) := ⟨rfl, rfl, rfl, by decide +kernel, rfl, by decide +kernel, by decide +kernel⟩
theorem sc_written : FnScope ["program", "works", "memory", "asks", "rows", "work", "ask", "row"] ["program", "works", "memory", "asks"] (defScope s_written) := ⟨rfl, rfl, rfl, by decide +kernel, rfl, by decide +kernel, by decide +kernel⟩
theorem sc_is_always_whole : FnScope ["program", "works", "memory", "window", "row", "work", "low", "high", "when", "watch"] ["program", "works", "memory", "window", "row"] (defScope s_is_always_whole) := ⟨rfl, rfl, rfl, by decide +kernel, rfl, by decide +kernel, by decide +kernel⟩
theorem sc_fewest : FnScope ["ahead", "behind", "works", "memory", "window", "many", "rested"] ["ahead", "behind", "works", "memory", "window"] (defScope s_fewest) := ⟨rfl, rfl, rfl, by decide +kernel, rfl, by decide +kernel, by decide +kernel⟩
theorem sc_rests : FnScope ["program", "works", "memory", "work", "low", "high", "row"] ["program", "works", "memory", "work", "low", "high", "row"] (defScope s_rests) := ⟨rfl, rfl, rfl, by decide +kernel, rfl, by decide +kernel, by decide +kernel⟩
theorem sc_guards : FnScope ["program", "works", "memory", "work", "low", "high", "row", "mark", "ahead", "behind"] ["program", "works", "memory", "work", "low", "high", "row", "mark"] (defScope s_guards) := ⟨rfl, rfl, rfl, by decide +kernel, rfl, by decide +kernel, by decide +kernel⟩
theorem sc_deeds : FnScope ["told", "rows", "when", "moved", "did"] ["told"] (defScope s_deeds) := ⟨rfl, rfl, rfl, by decide +kernel, rfl, by decide +kernel, by decide +kernel⟩
theorem sc_sights : FnScope ["program", "works", "memory", "asks", "beats", "told", "shown", "seen", "puts", "when", "who", "deed", "address", "word"] ["program", "works", "memory", "asks", "beats"] (defScope s_sights) := ⟨rfl, rfl, rfl, by decide +kernel, rfl, by decide +kernel, by decide +kernel⟩
theorem sc_worths : FnScope ["program", "works", "memory", "asks", "beats", "address", "told", "shown", "when", "who", "deed", "place", "word"] ["program", "works", "memory", "asks", "beats", "address"] (defScope s_worths) := ⟨rfl, rfl, rfl, by decide +kernel, rfl, by decide +kernel, by decide +kernel⟩
theorem sc_l_dice : FnScope ["_law_script", "_law_k", "_law_found", "_law_cell"] ["_law_script", "_law_k"] (defScope s_l_dice) := ⟨rfl, rfl, rfl, by decide +kernel, rfl, by decide +kernel, by decide +kernel⟩
theorem sc_l_off : FnScope ["_law_d", "_law_most", "_law_at", "_law_cell"] ["_law_d", "_law_most"] (defScope s_l_off) := ⟨rfl, rfl, rfl, by decide +kernel, rfl, by decide +kernel, by decide +kernel⟩
theorem sc_l_word : FnScope ["_law_work", "_law_e", "_law_kinds", "_law_words", "_law_word_here"] ["_law_work"] (defScope s_l_word) := ⟨rfl, rfl, rfl, by decide +kernel, rfl, by decide +kernel, by decide +kernel⟩
theorem sc_l_are : FnScope ["_law_works", "_law_due", "_law_work"] ["_law_works", "_law_due"] (defScope s_l_are) := ⟨rfl, rfl, rfl, by decide +kernel, rfl, by decide +kernel, by decide +kernel⟩
theorem sc_l_row : FnScope ["_law_d", "_law_many", "_law_straight", "_law_words", "_law_word_here", "_law_r", "_law_s", "_law_address", "_law_some"] ["_law_d", "_law_many", "_law_straight"] (defScope s_l_row) := ⟨rfl, rfl, rfl, by decide +kernel, rfl, by decide +kernel, by decide +kernel⟩
theorem sc_l_program : FnScope ["_law_d", "_law_straight", "_law_many", "_law_k"] ["_law_d", "_law_straight"] (defScope s_l_program) := ⟨rfl, rfl, rfl, by decide +kernel, rfl, by decide +kernel, by decide +kernel⟩
theorem sc_l_is : FnScope ["_law_thing", "_law_low", "_law_high"] ["_law_thing", "_law_low", "_law_high"] (defScope s_l_is) := ⟨rfl, rfl, rfl, by decide +kernel, rfl, by decide +kernel, by decide +kernel⟩
theorem sc_l_is_row : FnScope ["_law_row_here", "_law_many", "_law_most", "_law_least", "_law_k"] ["_law_row_here", "_law_many"] (defScope s_l_is_row) := ⟨rfl, rfl, rfl, by decide +kernel, rfl, by decide +kernel, by decide +kernel⟩
theorem sc_l_first_row : FnScope ["_law_program_here", "_law_some", "_law_k"] ["_law_program_here"] (defScope s_l_first_row) := ⟨rfl, rfl, rfl, by decide +kernel, rfl, by decide +kernel, by decide +kernel⟩
theorem sc_l_odd : FnScope ["_law_d", "_law_old", "_law_way", "_law_far"] ["_law_d", "_law_old"] (defScope s_l_odd) := ⟨rfl, rfl, rfl, by decide +kernel, rfl, by decide +kernel, by decide +kernel⟩
theorem sc_l_bent_row : FnScope ["_law_d", "_law_row_here", "_law_way", "_law_at"] ["_law_d", "_law_row_here"] (defScope s_l_bent_row) := ⟨rfl, rfl, rfl, by decide +kernel, rfl, by decide +kernel, by decide +kernel⟩
theorem sc_l_doors : FnScope ["_law_program_here", "_law_works", "_law_memory", "_law_asks", "_law_found"] ["_law_program_here", "_law_works", "_law_memory", "_law_asks"] (defScope s_l_doors) := ⟨rfl, rfl, rfl, by decide +kernel, rfl, by decide +kernel, by decide +kernel⟩
theorem sc_l_windows : FnScope ["_law_program_here", "_law_works", "_law_memory", "_law_found"] ["_law_program_here", "_law_works", "_law_memory"] (defScope s_l_windows) := ⟨rfl, rfl, rfl, by decide +kernel, rfl, by decide +kernel, by decide +kernel⟩
theorem sc_law : FnScope ["_law_script", "_law_d", "_law_turn", "_law_program_here", "_law_change", "_law_at", "_law_way", "_law_some", "_law_first", "_law_works", "_law_due", "_law_wide"] ["_law_script"] (defScope s_law) := ⟨rfl, rfl, rfl, by decide +kernel, rfl, by decide +kernel, by decide +kernel⟩
def Ent (K : PySem.W.Frag) (g k : Str) (vs : List V) : Prop := ∃ p, PySem.W.nsIn K (He.ga K g) k = some (some (.ref p)) ∧ ∀ H, SqT K H p vs
def entB (K : PySem.W.Frag) (g k : Str) (vs : List V) : Bool := match PySem.W.nsIn K (He.ga K g) k with
  | some (some (.ref p)) => (match K.lookup p with
    | some ⟨.type c, _, .seq its _, _⟩ => decide (c = "tuple") && (decide (its.size ≤ sizeLine) && He.relAll vs its.toList)
    | _ => false)
  | _ => false
theorem entB_ok {K : PySem.W.Frag} {g k : Str} {vs : List V} (h : entB K g k vs = true) : Ent K g k vs := by
  unfold entB at h
  cases q : PySem.W.nsIn K (He.ga K g) k with
  | none => rw [q] at h; cases h
  | some r =>
    rw [q] at h
    cases r with
    | none => cases h
    | some u =>
      cases u with
      | ref p =>
        refine ⟨p, q, fun H => ?_⟩
        have h2 : (match K.lookup p with
          | some ⟨.type c, _, .seq its _, _⟩ => decide (c = "tuple") && (decide (its.size ≤ sizeLine) && He.relAll vs its.toList)
          | _ => false) = true := h
        cases q2 : K.lookup p with
        | none => rw [q2] at h2; cases h2
        | some o =>
          obtain ⟨oc, od, dt, osl⟩ := o
          rw [q2] at h2
          cases oc with
          | type c =>
            cases dt with
            | seq its n =>
              obtain ⟨h3, h4⟩ := He.ba h2
              obtain ⟨h5, h6⟩ := He.ba h4
              exact .inr ⟨_, its, n, q2, congrArg Value.type (of_decide_eq_true h3), rfl, of_decide_eq_true h5, He.relAll_ok h6⟩
            | _ => cases h2
          | _ => cases dt <;> cases h2
      | _ => cases h
structure T (w : World) (K : PySem.W.Frag) (mg : Str → Option Value) : Prop where
  g_is_number : mg "is_number" = some (.ref (He.ga K "is_number"))
  g_is_part : mg "is_part" = some (.ref (He.ga K "is_part"))
  g_is_one_of : mg "is_one_of" = some (.ref (He.ga K "is_one_of"))
  g_is_row : mg "is_row" = some (.ref (He.ga K "is_row"))
  g_is_work : mg "is_work" = some (.ref (He.ga K "is_work"))
  g_is_ask : mg "is_ask" = some (.ref (He.ga K "is_ask"))
  g_is_window : mg "is_window" = some (.ref (He.ga K "is_window"))
  g_is_pair : mg "is_pair" = some (.ref (He.ga K "is_pair"))
  g_is_claim : mg "is_claim" = some (.ref (He.ga K "is_claim"))
  g_is_deed : mg "is_deed" = some (.ref (He.ga K "is_deed"))
  g_is_moved : mg "is_moved" = some (.ref (He.ga K "is_moved"))
  g_is_told : mg "is_told" = some (.ref (He.ga K "is_told"))
  g_check_program : mg "check_program" = some (.ref (He.ga K "check_program"))
  g_check_works : mg "check_works" = some (.ref (He.ga K "check_works"))
  g_check_memory : mg "check_memory" = some (.ref (He.ga K "check_memory"))
  g_check_asks : mg "check_asks" = some (.ref (He.ga K "check_asks"))
  g_check_hall : mg "check_hall" = some (.ref (He.ga K "check_hall"))
  g_check_beats : mg "check_beats" = some (.ref (He.ga K "check_beats"))
  g_check_window : mg "check_window" = some (.ref (He.ga K "check_window"))
  g_check_windowed : mg "check_windowed" = some (.ref (He.ga K "check_windowed"))
  g_check_claim : mg "check_claim" = some (.ref (He.ga K "check_claim"))
  g_check_pair : mg "check_pair" = some (.ref (He.ga K "check_pair"))
  g_check_mark : mg "check_mark" = some (.ref (He.ga K "check_mark"))
  g_check_address : mg "check_address" = some (.ref (He.ga K "check_address"))
  g_check_log : mg "check_log" = some (.ref (He.ga K "check_log"))
  g_check_straight : mg "check_straight" = some (.ref (He.ga K "check_straight"))
  g_beats_of : mg "beats_of" = some (.ref (He.ga K "beats_of"))
  g_word_of : mg "word_of" = some (.ref (He.ga K "word_of"))
  g_run : mg "run" = some (.ref (He.ga K "run"))
  g_check_ahead : mg "check_ahead" = some (.ref (He.ga K "check_ahead"))
  g_watched : mg "watched" = some (.ref (He.ga K "watched"))
  g_row_times : mg "row_times" = some (.ref (He.ga K "row_times"))
  g_times : mg "times" = some (.ref (He.ga K "times"))
  g_overs : mg "overs" = some (.ref (He.ga K "overs"))
  g_least_and_most : mg "least_and_most" = some (.ref (He.ga K "least_and_most"))
  g_spread : mg "spread" = some (.ref (He.ga K "spread"))
  g_judged : mg "judged" = some (.ref (He.ga K "judged"))
  g_lays_at : mg "lays_at" = some (.ref (He.ga K "lays_at"))
  g_laid_ahead : mg "laid_ahead" = some (.ref (He.ga K "laid_ahead"))
  g_is_torn : mg "is_torn" = some (.ref (He.ga K "is_torn"))
  g_tears : mg "tears" = some (.ref (He.ga K "tears"))
  g_is_whole : mg "is_whole" = some (.ref (He.ga K "is_whole"))
  g_tears_within : mg "tears_within" = some (.ref (He.ga K "tears_within"))
  g_torns : mg "torns" = some (.ref (He.ga K "torns"))
  g_first_torn : mg "first_torn" = some (.ref (He.ga K "first_torn"))
  g_is_over : mg "is_over" = some (.ref (He.ga K "is_over"))
  g_is_kept : mg "is_kept" = some (.ref (He.ga K "is_kept"))
  g_holds : mg "holds" = some (.ref (He.ga K "holds"))
  g_leans : mg "leans" = some (.ref (He.ga K "leans"))
  g_part_text : mg "part_text" = some (.ref (He.ga K "part_text"))
  g_row_text : mg "row_text" = some (.ref (He.ga K "row_text"))
  g_written : mg "written" = some (.ref (He.ga K "written"))
  g_is_always_whole : mg "is_always_whole" = some (.ref (He.ga K "is_always_whole"))
  g_fewest : mg "fewest" = some (.ref (He.ga K "fewest"))
  g_rests : mg "rests" = some (.ref (He.ga K "rests"))
  g_guards : mg "guards" = some (.ref (He.ga K "guards"))
  g_deeds : mg "deeds" = some (.ref (He.ga K "deeds"))
  g_sights : mg "sights" = some (.ref (He.ga K "sights"))
  g_worths : mg "worths" = some (.ref (He.ga K "worths"))
  g_l_dice : mg "_law_dice" = some (.ref (He.ga K "_law_dice"))
  g_l_off : mg "_law_off" = some (.ref (He.ga K "_law_off"))
  g_l_word : mg "_law_word" = some (.ref (He.ga K "_law_word"))
  g_l_are : mg "_law_are" = some (.ref (He.ga K "_law_are"))
  g_l_row : mg "_law_row" = some (.ref (He.ga K "_law_row"))
  g_l_program : mg "_law_program" = some (.ref (He.ga K "_law_program"))
  g_l_is : mg "_law_is" = some (.ref (He.ga K "_law_is"))
  g_l_is_row : mg "_law_is_row" = some (.ref (He.ga K "_law_is_row"))
  g_l_first_row : mg "_law_first_row" = some (.ref (He.ga K "_law_first_row"))
  g_l_odd : mg "_law_odd" = some (.ref (He.ga K "_law_odd"))
  g_l_bent_row : mg "_law_bent_row" = some (.ref (He.ga K "_law_bent_row"))
  g_l_doors : mg "_law_doors" = some (.ref (He.ga K "_law_doors"))
  g_l_windows : mg "_law_windows" = some (.ref (He.ga K "_law_windows"))
  g_law : mg "law" = some (.ref (He.ga K "law"))
  g_Going : mg "Going" = some (.ref (He.ga K "Going"))
  cl_Going : Cls K (He.ga K "Going")
  mk_Going : Mk K (He.ga K "Going") (He.ma K (He.ga K "Going") "__init__")
  n_Going_number : NoAttr K (He.ga K "Going") "number"
  n_Going_hand : NoAttr K (He.ga K "Going") "hand"
  n_Going_puts : NoAttr K (He.ga K "Going") "puts"
  g_Work : mg "Work" = some (.ref (He.ga K "Work"))
  cl_Work : Cls K (He.ga K "Work")
  mk_Work : Mk K (He.ga K "Work") (He.ma K (He.ga K "Work") "__init__")
  n_Work_begin : NoAttr K (He.ga K "Work") "begin"
  n_Work_goal : NoAttr K (He.ga K "Work") "goal"
  n_Work_many : NoAttr K (He.ga K "Work") "many"
  n_Work_block : NoAttr K (He.ga K "Work") "block"
  n_Work_greed : NoAttr K (He.ga K "Work") "greed"
  n_Work_mark : NoAttr K (He.ga K "Work") "mark"
  n_Work_follow : NoAttr K (He.ga K "Work") "follow"
  n_Work_going : NoAttr K (He.ga K "Work") "going"
  m_Work_held_off : Meth K (He.ga K "Work") "held_off" (He.ma K (He.ga K "Work") "held_off")
  m_Work_may_take : Meth K (He.ga K "Work") "may_take" (He.ma K (He.ga K "Work") "may_take")
  m_Work_move : Meth K (He.ga K "Work") "move" (He.ma K (He.ga K "Work") "move")
  m_Work_fetch : Meth K (He.ga K "Work") "fetch" (He.ma K (He.ga K "Work") "fetch")
  m_Work_lay : Meth K (He.ga K "Work") "lay" (He.ma K (He.ga K "Work") "lay")
  g_Device : mg "Device" = some (.ref (He.ga K "Device"))
  cl_Device : Cls K (He.ga K "Device")
  mk_Device : Mk K (He.ga K "Device") (He.ma K (He.ga K "Device") "__init__")
  n_Device_works : NoAttr K (He.ga K "Device") "works"
  n_Device_took : NoAttr K (He.ga K "Device") "took"
  n_Device_begun : NoAttr K (He.ga K "Device") "begun"
  m_Device_is_on : Meth K (He.ga K "Device") "is_on" (He.ma K (He.ga K "Device") "is_on")
  m_Device_wake : Meth K (He.ga K "Device") "wake" (He.ma K (He.ga K "Device") "wake")
  m_Device_start : Meth K (He.ga K "Device") "start" (He.ma K (He.ga K "Device") "start")
  m_Device_move : Meth K (He.ga K "Device") "move" (He.ma K (He.ga K "Device") "move")
  m_Device_taker : Meth K (He.ga K "Device") "taker" (He.ma K (He.ga K "Device") "taker")
  m_Device_numbers_on : Meth K (He.ga K "Device") "numbers_on" (He.ma K (He.ga K "Device") "numbers_on")
  m_Device_shown_on : Meth K (He.ga K "Device") "shown_on" (He.ma K (He.ga K "Device") "shown_on")
  g_Machine : mg "Machine" = some (.ref (He.ga K "Machine"))
  cl_Machine : Cls K (He.ga K "Machine")
  mk_Machine : Mk K (He.ga K "Machine") (He.ma K (He.ga K "Machine") "__init__")
  n_Machine_program : NoAttr K (He.ga K "Machine") "program"
  n_Machine_cells : NoAttr K (He.ga K "Machine") "cells"
  n_Machine_marks : NoAttr K (He.ga K "Machine") "marks"
  n_Machine_row : NoAttr K (He.ga K "Machine") "row"
  n_Machine_spent : NoAttr K (He.ga K "Machine") "spent"
  m_Machine_ended : Meth K (He.ga K "Machine") "ended" (He.ma K (He.ga K "Machine") "ended")
  m_Machine_wanted : Meth K (He.ga K "Machine") "wanted" (He.ma K (He.ga K "Machine") "wanted")
  m_Machine_step : Meth K (He.ga K "Machine") "step" (He.ma K (He.ga K "Machine") "step")
  m_Machine_use_word : Meth K (He.ga K "Machine") "use_word" (He.ma K (He.ga K "Machine") "use_word")
  m_Machine_finish : Meth K (He.ga K "Machine") "finish" (He.ma K (He.ga K "Machine") "finish")
  m_Machine_reckoned : Meth K (He.ga K "Machine") "reckoned" (He.ma K (He.ga K "Machine") "reckoned")
  g_Floor : mg "Floor" = some (.ref (He.ga K "Floor"))
  cl_Floor : Cls K (He.ga K "Floor")
  mk_Floor : Mk K (He.ga K "Floor") (He.ma K (He.ga K "Floor") "__init__")
  n_Floor_machine : NoAttr K (He.ga K "Floor") "machine"
  n_Floor_device : NoAttr K (He.ga K "Floor") "device"
  n_Floor_words : NoAttr K (He.ga K "Floor") "words"
  n_Floor_asks : NoAttr K (He.ga K "Floor") "asks"
  n_Floor_beats : NoAttr K (He.ga K "Floor") "beats"
  m_Floor_pass_beat : Meth K (He.ga K "Floor") "pass_beat" (He.ma K (He.ga K "Floor") "pass_beat")
  m_Floor_seen : Meth K (He.ga K "Floor") "seen" (He.ma K (He.ga K "Floor") "seen")
  g_Hall : mg "Hall" = some (.ref (He.ga K "Hall"))
  cl_Hall : Cls K (He.ga K "Hall")
  mk_Hall : Mk K (He.ga K "Hall") (He.ma K (He.ga K "Hall") "__init__")
  n_Hall_floor : NoAttr K (He.ga K "Hall") "floor"
  m_Hall_beat : Meth K (He.ga K "Hall") "beat" (He.ma K (He.ga K "Hall") "beat")
  m_Hall_shown : Meth K (He.ga K "Hall") "shown" (He.ma K (He.ga K "Hall") "shown")
  g_Watch : mg "Watch" = some (.ref (He.ga K "Watch"))
  cl_Watch : Cls K (He.ga K "Watch")
  mk_Watch : Mk K (He.ga K "Watch") (He.ma K (He.ga K "Watch") "__init__")
  n_Watch_floor : NoAttr K (He.ga K "Watch") "floor"
  n_Watch_dones : NoAttr K (He.ga K "Watch") "dones"
  n_Watch_on_behind : NoAttr K (He.ga K "Watch") "on_behind"
  n_Watch_pairs : NoAttr K (He.ga K "Watch") "pairs"
  n_Watch_first_get : NoAttr K (He.ga K "Watch") "first_get"
  n_Watch_goings : NoAttr K (He.ga K "Watch") "goings"
  m_Watch_run : Meth K (He.ga K "Watch") "run" (He.ma K (He.ga K "Watch") "run")
  m_Watch_run_till : Meth K (He.ga K "Watch") "run_till" (He.ma K (He.ga K "Watch") "run_till")
  m_Watch_step : Meth K (He.ga K "Watch") "step" (He.ma K (He.ga K "Watch") "step")
  m_Watch_note_get : Meth K (He.ga K "Watch") "note_get" (He.ma K (He.ga K "Watch") "note_get")
  g_BeatError : mg "BeatError" = some (.ref (He.ga K "BeatError"))
  g_BadMemory : mg "BadMemory" = some (.ref (He.ga K "BadMemory"))
  g_BadBeats : mg "BadBeats" = some (.ref (He.ga K "BadBeats"))
  g_BadWindow : mg "BadWindow" = some (.ref (He.ga K "BadWindow"))
  g_BadClaim : mg "BadClaim" = some (.ref (He.ga K "BadClaim"))
  g_BadRow : mg "BadRow" = some (.ref (He.ga K "BadRow"))
  g_Crooked : mg "Crooked" = some (.ref (He.ga K "Crooked"))
  g_BadProgram : mg "BadProgram" = some (.ref (He.ga K "BadProgram"))
  g_BadWorks : mg "BadWorks" = some (.ref (He.ga K "BadWorks"))
  g_BadAsks : mg "BadAsks" = some (.ref (He.ga K "BadAsks"))
  g_BadLog : mg "BadLog" = some (.ref (He.ga K "BadLog"))
  g_BadText : mg "BadText" = some (.ref (He.ga K "BadText"))
  u_abs : mg "abs" = none
  u_bool : mg "bool" = none
  u_enumerate : mg "enumerate" = none
  u_int : mg "int" = none
  u_isinstance : mg "isinstance" = none
  u_len : mg "len" = none
  u_list : mg "list" = none
  u_max : mg "max" = none
  u_min : mg "min" = none
  u_range : mg "range" = none
  u_str : mg "str" = none
  u_tuple : mg "tuple" = none
  u_zip : mg "zip" = none
  u_ValueError : mg "ValueError" = none
  u_super : mg "super" = none
  i_NOTHING : ∃ t, mg "NOTHING" = some (.str "-" t)
  i_FEWEST_WORDS : ∃ t, mg "FEWEST_WORDS" = some (.int 4 t)
  i_MOST_WORDS : ∃ t, mg "MOST_WORDS" = some (.int 32 t)
  i_MOST_ROWS : ∃ t, mg "MOST_ROWS" = some (.int 40 t)
  i_MOST_WORKS : ∃ t, mg "MOST_WORKS" = some (.int 6 t)
  i_MOST_ASKS : ∃ t, mg "MOST_ASKS" = some (.int 8 t)
  i_MOST_BEATS : ∃ t, mg "MOST_BEATS" = some (.int 300 t)
  i_WIDEST_WINDOW : ∃ t, mg "WIDEST_WINDOW" = some (.int 40 t)
  i_CELLS : ∃ t, mg "CELLS" = some (.int 4 t)
  i_MARKS : ∃ t, mg "MARKS" = some (.int 3 t)
  i_WORTHS : ∃ t, mg "WORTHS" = some (.int 1000 t)
  i_MOST_RESTS : ∃ t, mg "MOST_RESTS" = some (.int 40 t)
  g_GREEDS : mg "GREEDS" = some (.ref (He.ga K "GREEDS"))
  g_DEEDS : mg "DEEDS" = some (.ref (He.ga K "DEEDS"))
  g_WORDLESS : mg "WORDLESS" = some (.ref (He.ga K "WORDLESS"))
  g_FORMS : mg "FORMS" = some (.ref (He.ga K "FORMS"))
  g_BOUNDS : mg "BOUNDS" = some (.ref (He.ga K "BOUNDS"))
  f_is_number : ∃ fd, FunD K "is_number" "is_number" (defArgs s_is_number) (defBody s_is_number) (defScope s_is_number) [] [] (He.ga K "is_number") fd
  f_is_part : ∃ fd, FunD K "is_part" "is_part" (defArgs s_is_part) (defBody s_is_part) (defScope s_is_part) [] [] (He.ga K "is_part") fd
  f_is_one_of : ∃ fd, FunD K "is_one_of" "is_one_of" (defArgs s_is_one_of) (defBody s_is_one_of) (defScope s_is_one_of) [] [] (He.ga K "is_one_of") fd
  f_is_row : ∃ fd, FunD K "is_row" "is_row" (defArgs s_is_row) (defBody s_is_row) (defScope s_is_row) [] [] (He.ga K "is_row") fd
  f_is_work : ∃ fd, FunD K "is_work" "is_work" (defArgs s_is_work) (defBody s_is_work) (defScope s_is_work) [] [] (He.ga K "is_work") fd
  f_is_ask : ∃ fd, FunD K "is_ask" "is_ask" (defArgs s_is_ask) (defBody s_is_ask) (defScope s_is_ask) [] [] (He.ga K "is_ask") fd
  f_is_window : ∃ fd, FunD K "is_window" "is_window" (defArgs s_is_window) (defBody s_is_window) (defScope s_is_window) [] [] (He.ga K "is_window") fd
  f_is_pair : ∃ fd, FunD K "is_pair" "is_pair" (defArgs s_is_pair) (defBody s_is_pair) (defScope s_is_pair) [] [] (He.ga K "is_pair") fd
  f_is_claim : ∃ fd, FunD K "is_claim" "is_claim" (defArgs s_is_claim) (defBody s_is_claim) (defScope s_is_claim) [] [] (He.ga K "is_claim") fd
  f_is_deed : ∃ fd, FunD K "is_deed" "is_deed" (defArgs s_is_deed) (defBody s_is_deed) (defScope s_is_deed) [] [] (He.ga K "is_deed") fd
  f_is_moved : ∃ fd, FunD K "is_moved" "is_moved" (defArgs s_is_moved) (defBody s_is_moved) (defScope s_is_moved) [] [] (He.ga K "is_moved") fd
  f_is_told : ∃ fd, FunD K "is_told" "is_told" (defArgs s_is_told) (defBody s_is_told) (defScope s_is_told) [] [] (He.ga K "is_told") fd
  f_check_program : ∃ fd, FunD K "check_program" "check_program" (defArgs s_check_program) (defBody s_check_program) (defScope s_check_program) [] [] (He.ga K "check_program") fd
  f_check_works : ∃ fd, FunD K "check_works" "check_works" (defArgs s_check_works) (defBody s_check_works) (defScope s_check_works) [] [] (He.ga K "check_works") fd
  f_check_memory : ∃ fd, FunD K "check_memory" "check_memory" (defArgs s_check_memory) (defBody s_check_memory) (defScope s_check_memory) [] [] (He.ga K "check_memory") fd
  f_check_asks : ∃ fd, FunD K "check_asks" "check_asks" (defArgs s_check_asks) (defBody s_check_asks) (defScope s_check_asks) [] [] (He.ga K "check_asks") fd
  f_check_hall : ∃ fd, FunD K "check_hall" "check_hall" (defArgs s_check_hall) (defBody s_check_hall) (defScope s_check_hall) [] [] (He.ga K "check_hall") fd
  f_check_beats : ∃ fd, FunD K "check_beats" "check_beats" (defArgs s_check_beats) (defBody s_check_beats) (defScope s_check_beats) [] [] (He.ga K "check_beats") fd
  f_check_window : ∃ fd, FunD K "check_window" "check_window" (defArgs s_check_window) (defBody s_check_window) (defScope s_check_window) [] [] (He.ga K "check_window") fd
  f_check_windowed : ∃ fd, FunD K "check_windowed" "check_windowed" (defArgs s_check_windowed) (defBody s_check_windowed) (defScope s_check_windowed) [] [] (He.ga K "check_windowed") fd
  f_check_claim : ∃ fd, FunD K "check_claim" "check_claim" (defArgs s_check_claim) (defBody s_check_claim) (defScope s_check_claim) [] [] (He.ga K "check_claim") fd
  f_check_pair : ∃ fd, FunD K "check_pair" "check_pair" (defArgs s_check_pair) (defBody s_check_pair) (defScope s_check_pair) [] [] (He.ga K "check_pair") fd
  f_check_mark : ∃ fd, FunD K "check_mark" "check_mark" (defArgs s_check_mark) (defBody s_check_mark) (defScope s_check_mark) [] [] (He.ga K "check_mark") fd
  f_check_address : ∃ fd, FunD K "check_address" "check_address" (defArgs s_check_address) (defBody s_check_address) (defScope s_check_address) [] [] (He.ga K "check_address") fd
  f_check_log : ∃ fd, FunD K "check_log" "check_log" (defArgs s_check_log) (defBody s_check_log) (defScope s_check_log) [] [] (He.ga K "check_log") fd
  f_check_straight : ∃ fd, FunD K "check_straight" "check_straight" (defArgs s_check_straight) (defBody s_check_straight) (defScope s_check_straight) [] [] (He.ga K "check_straight") fd
  f_Going_init : ∃ fd, FunD K "__init__" "Going.__init__" (defArgs s_Going_init) (defBody s_Going_init) (defScope s_Going_init) [] [] (He.ma K (He.ga K "Going") "__init__") fd
  f_Work_init : ∃ fd, FunD K "__init__" "Work.__init__" (defArgs s_Work_init) (defBody s_Work_init) (defScope s_Work_init) [] [] (He.ma K (He.ga K "Work") "__init__") fd
  f_Work_held_off : ∃ fd, FunD K "held_off" "Work.held_off" (defArgs s_Work_held_off) (defBody s_Work_held_off) (defScope s_Work_held_off) [] [] (He.ma K (He.ga K "Work") "held_off") fd
  f_Work_may_take : ∃ fd, FunD K "may_take" "Work.may_take" (defArgs s_Work_may_take) (defBody s_Work_may_take) (defScope s_Work_may_take) [] [] (He.ma K (He.ga K "Work") "may_take") fd
  f_Work_move : ∃ fd, FunD K "move" "Work.move" (defArgs s_Work_move) (defBody s_Work_move) (defScope s_Work_move) [] [] (He.ma K (He.ga K "Work") "move") fd
  f_Work_fetch : ∃ fd, FunD K "fetch" "Work.fetch" (defArgs s_Work_fetch) (defBody s_Work_fetch) (defScope s_Work_fetch) [] [] (He.ma K (He.ga K "Work") "fetch") fd
  f_Work_lay : ∃ fd, FunD K "lay" "Work.lay" (defArgs s_Work_lay) (defBody s_Work_lay) (defScope s_Work_lay) [] [] (He.ma K (He.ga K "Work") "lay") fd
  f_Device_init : ∃ fd, FunD K "__init__" "Device.__init__" (defArgs s_Device_init) (defBody s_Device_init) (defScope s_Device_init) [] [] (He.ma K (He.ga K "Device") "__init__") fd
  f_Device_is_on : ∃ fd, FunD K "is_on" "Device.is_on" (defArgs s_Device_is_on) (defBody s_Device_is_on) (defScope s_Device_is_on) [] [] (He.ma K (He.ga K "Device") "is_on") fd
  f_Device_wake : ∃ fd, FunD K "wake" "Device.wake" (defArgs s_Device_wake) (defBody s_Device_wake) (defScope s_Device_wake) [] [] (He.ma K (He.ga K "Device") "wake") fd
  f_Device_start : ∃ fd, FunD K "start" "Device.start" (defArgs s_Device_start) (defBody s_Device_start) (defScope s_Device_start) [] [] (He.ma K (He.ga K "Device") "start") fd
  f_Device_move : ∃ fd, FunD K "move" "Device.move" (defArgs s_Device_move) (defBody s_Device_move) (defScope s_Device_move) [] [] (He.ma K (He.ga K "Device") "move") fd
  f_Device_taker : ∃ fd, FunD K "taker" "Device.taker" (defArgs s_Device_taker) (defBody s_Device_taker) (defScope s_Device_taker) [] [] (He.ma K (He.ga K "Device") "taker") fd
  f_Device_numbers_on : ∃ fd, FunD K "numbers_on" "Device.numbers_on" (defArgs s_Device_numbers_on) (defBody s_Device_numbers_on) (defScope s_Device_numbers_on) [] [] (He.ma K (He.ga K "Device") "numbers_on") fd
  f_Device_shown_on : ∃ fd, FunD K "shown_on" "Device.shown_on" (defArgs s_Device_shown_on) (defBody s_Device_shown_on) (defScope s_Device_shown_on) [] [] (He.ma K (He.ga K "Device") "shown_on") fd
  f_beats_of : ∃ fd, FunD K "beats_of" "beats_of" (defArgs s_beats_of) (defBody s_beats_of) (defScope s_beats_of) [] [] (He.ga K "beats_of") fd
  f_word_of : ∃ fd, FunD K "word_of" "word_of" (defArgs s_word_of) (defBody s_word_of) (defScope s_word_of) [] [] (He.ga K "word_of") fd
  f_Machine_init : ∃ fd, FunD K "__init__" "Machine.__init__" (defArgs s_Machine_init) (defBody s_Machine_init) (defScope s_Machine_init) [] [] (He.ma K (He.ga K "Machine") "__init__") fd
  f_Machine_ended : ∃ fd, FunD K "ended" "Machine.ended" (defArgs s_Machine_ended) (defBody s_Machine_ended) (defScope s_Machine_ended) [] [] (He.ma K (He.ga K "Machine") "ended") fd
  f_Machine_wanted : ∃ fd, FunD K "wanted" "Machine.wanted" (defArgs s_Machine_wanted) (defBody s_Machine_wanted) (defScope s_Machine_wanted) [] [] (He.ma K (He.ga K "Machine") "wanted") fd
  f_Machine_step : ∃ fd, FunD K "step" "Machine.step" (defArgs s_Machine_step) (defBody s_Machine_step) (defScope s_Machine_step) [] [] (He.ma K (He.ga K "Machine") "step") fd
  f_Machine_use_word : ∃ fd, FunD K "use_word" "Machine.use_word" (defArgs s_Machine_use_word) (defBody s_Machine_use_word) (defScope s_Machine_use_word) [] [] (He.ma K (He.ga K "Machine") "use_word") fd
  f_Machine_finish : ∃ fd, FunD K "finish" "Machine.finish" (defArgs s_Machine_finish) (defBody s_Machine_finish) (defScope s_Machine_finish) [] [] (He.ma K (He.ga K "Machine") "finish") fd
  f_Machine_reckoned : ∃ fd, FunD K "reckoned" "Machine.reckoned" (defArgs s_Machine_reckoned) (defBody s_Machine_reckoned) (defScope s_Machine_reckoned) [] [] (He.ma K (He.ga K "Machine") "reckoned") fd
  f_Floor_init : ∃ fd, FunD K "__init__" "Floor.__init__" (defArgs s_Floor_init) (defBody s_Floor_init) (defScope s_Floor_init) [] [] (He.ma K (He.ga K "Floor") "__init__") fd
  f_Floor_pass_beat : ∃ fd, FunD K "pass_beat" "Floor.pass_beat" (defArgs s_Floor_pass_beat) (defBody s_Floor_pass_beat) (defScope s_Floor_pass_beat) [] [] (He.ma K (He.ga K "Floor") "pass_beat") fd
  f_Floor_seen : ∃ fd, FunD K "seen" "Floor.seen" (defArgs s_Floor_seen) (defBody s_Floor_seen) (defScope s_Floor_seen) [] [] (He.ma K (He.ga K "Floor") "seen") fd
  f_Hall_init : ∃ fd, FunD K "__init__" "Hall.__init__" (defArgs s_Hall_init) (defBody s_Hall_init) (defScope s_Hall_init) [] [] (He.ma K (He.ga K "Hall") "__init__") fd
  f_Hall_beat : ∃ fd, FunD K "beat" "Hall.beat" (defArgs s_Hall_beat) (defBody s_Hall_beat) (defScope s_Hall_beat) [] [] (He.ma K (He.ga K "Hall") "beat") fd
  f_Hall_shown : ∃ fd, FunD K "shown" "Hall.shown" (defArgs s_Hall_shown) (defBody s_Hall_shown) (defScope s_Hall_shown) [] [] (He.ma K (He.ga K "Hall") "shown") fd
  f_run : ∃ fd, FunD K "run" "run" (defArgs s_run) (defBody s_run) (defScope s_run) [] [] (He.ga K "run") fd
  f_Watch_init : ∃ fd, FunD K "__init__" "Watch.__init__" (defArgs s_Watch_init) (defBody s_Watch_init) (defScope s_Watch_init) [] [] (He.ma K (He.ga K "Watch") "__init__") fd
  f_Watch_run : ∃ fd, FunD K "run" "Watch.run" (defArgs s_Watch_run) (defBody s_Watch_run) (defScope s_Watch_run) [] [] (He.ma K (He.ga K "Watch") "run") fd
  f_Watch_run_till : ∃ fd, FunD K "run_till" "Watch.run_till" (defArgs s_Watch_run_till) (defBody s_Watch_run_till) (defScope s_Watch_run_till) [] [] (He.ma K (He.ga K "Watch") "run_till") fd
  f_Watch_step : ∃ fd, FunD K "step" "Watch.step" (defArgs s_Watch_step) (defBody s_Watch_step) (defScope s_Watch_step) [] [] (He.ma K (He.ga K "Watch") "step") fd
  f_Watch_note_get : ∃ fd, FunD K "note_get" "Watch.note_get" (defArgs s_Watch_note_get) (defBody s_Watch_note_get) (defScope s_Watch_note_get) [] [] (He.ma K (He.ga K "Watch") "note_get") fd
  f_check_ahead : ∃ fd, FunD K "check_ahead" "check_ahead" (defArgs s_check_ahead) (defBody s_check_ahead) (defScope s_check_ahead) [] [] (He.ga K "check_ahead") fd
  f_watched : ∃ fd, FunD K "watched" "watched" (defArgs s_watched) (defBody s_watched) (defScope s_watched) [] [] (He.ga K "watched") fd
  f_row_times : ∃ fd, FunD K "row_times" "row_times" (defArgs s_row_times) (defBody s_row_times) (defScope s_row_times) [] [] (He.ga K "row_times") fd
  f_times : ∃ fd, FunD K "times" "times" (defArgs s_times) (defBody s_times) (defScope s_times) [] [] (He.ga K "times") fd
  f_overs : ∃ fd, FunD K "overs" "overs" (defArgs s_overs) (defBody s_overs) (defScope s_overs) [] [] (He.ga K "overs") fd
  f_least_and_most : ∃ fd, FunD K "least_and_most" "least_and_most" (defArgs s_least_and_most) (defBody s_least_and_most) (defScope s_least_and_most) [] [] (He.ga K "least_and_most") fd
  f_spread : ∃ fd, FunD K "spread" "spread" (defArgs s_spread) (defBody s_spread) (defScope s_spread) [] [] (He.ga K "spread") fd
  f_judged : ∃ fd, FunD K "judged" "judged" (defArgs s_judged) (defBody s_judged) (defScope s_judged) [] [] (He.ga K "judged") fd
  f_lays_at : ∃ fd, FunD K "lays_at" "lays_at" (defArgs s_lays_at) (defBody s_lays_at) (defScope s_lays_at) [] [] (He.ga K "lays_at") fd
  f_laid_ahead : ∃ fd, FunD K "laid_ahead" "laid_ahead" (defArgs s_laid_ahead) (defBody s_laid_ahead) (defScope s_laid_ahead) [] [] (He.ga K "laid_ahead") fd
  f_is_torn : ∃ fd, FunD K "is_torn" "is_torn" (defArgs s_is_torn) (defBody s_is_torn) (defScope s_is_torn) [] [] (He.ga K "is_torn") fd
  f_tears : ∃ fd, FunD K "tears" "tears" (defArgs s_tears) (defBody s_tears) (defScope s_tears) [] [] (He.ga K "tears") fd
  f_is_whole : ∃ fd, FunD K "is_whole" "is_whole" (defArgs s_is_whole) (defBody s_is_whole) (defScope s_is_whole) [] [] (He.ga K "is_whole") fd
  f_tears_within : ∃ fd, FunD K "tears_within" "tears_within" (defArgs s_tears_within) (defBody s_tears_within) (defScope s_tears_within) [] [] (He.ga K "tears_within") fd
  f_torns : ∃ fd, FunD K "torns" "torns" (defArgs s_torns) (defBody s_torns) (defScope s_torns) [] [] (He.ga K "torns") fd
  f_first_torn : ∃ fd, FunD K "first_torn" "first_torn" (defArgs s_first_torn) (defBody s_first_torn) (defScope s_first_torn) [] [] (He.ga K "first_torn") fd
  f_is_over : ∃ fd, FunD K "is_over" "is_over" (defArgs s_is_over) (defBody s_is_over) (defScope s_is_over) [] [] (He.ga K "is_over") fd
  f_is_kept : ∃ fd, FunD K "is_kept" "is_kept" (defArgs s_is_kept) (defBody s_is_kept) (defScope s_is_kept) [] [] (He.ga K "is_kept") fd
  f_holds : ∃ fd, FunD K "holds" "holds" (defArgs s_holds) (defBody s_holds) (defScope s_holds) [] [] (He.ga K "holds") fd
  f_leans : ∃ fd, FunD K "leans" "leans" (defArgs s_leans) (defBody s_leans) (defScope s_leans) [] [] (He.ga K "leans") fd
  f_part_text : ∃ fd, FunD K "part_text" "part_text" (defArgs s_part_text) (defBody s_part_text) (defScope s_part_text) [] [] (He.ga K "part_text") fd
  f_row_text : ∃ fd, FunD K "row_text" "row_text" (defArgs s_row_text) (defBody s_row_text) (defScope s_row_text) [] [] (He.ga K "row_text") fd
  f_written : ∃ fd, FunD K "written" "written" (defArgs s_written) (defBody s_written) (defScope s_written) [] [] (He.ga K "written") fd
  f_is_always_whole : ∃ fd, FunD K "is_always_whole" "is_always_whole" (defArgs s_is_always_whole) (defBody s_is_always_whole) (defScope s_is_always_whole) [] [] (He.ga K "is_always_whole") fd
  f_fewest : ∃ fd, FunD K "fewest" "fewest" (defArgs s_fewest) (defBody s_fewest) (defScope s_fewest) [] [] (He.ga K "fewest") fd
  f_rests : ∃ fd, FunD K "rests" "rests" (defArgs s_rests) (defBody s_rests) (defScope s_rests) [] [] (He.ga K "rests") fd
  f_guards : ∃ fd, FunD K "guards" "guards" (defArgs s_guards) (defBody s_guards) (defScope s_guards) [] [] (He.ga K "guards") fd
  f_deeds : ∃ fd, FunD K "deeds" "deeds" (defArgs s_deeds) (defBody s_deeds) (defScope s_deeds) [] [] (He.ga K "deeds") fd
  f_sights : ∃ fd, FunD K "sights" "sights" (defArgs s_sights) (defBody s_sights) (defScope s_sights) [] [] (He.ga K "sights") fd
  f_worths : ∃ fd, FunD K "worths" "worths" (defArgs s_worths) (defBody s_worths) (defScope s_worths) [] [] (He.ga K "worths") fd
  f_l_dice : ∃ fd, FunD K "_law_dice" "_law_dice" (defArgs s_l_dice) (defBody s_l_dice) (defScope s_l_dice) [] [] (He.ga K "_law_dice") fd
  f_l_off : ∃ fd, FunD K "_law_off" "_law_off" (defArgs s_l_off) (defBody s_l_off) (defScope s_l_off) [] [] (He.ga K "_law_off") fd
  f_l_word : ∃ fd, FunD K "_law_word" "_law_word" (defArgs s_l_word) (defBody s_l_word) (defScope s_l_word) [] [] (He.ga K "_law_word") fd
  f_l_are : ∃ fd, FunD K "_law_are" "_law_are" (defArgs s_l_are) (defBody s_l_are) (defScope s_l_are) [] [] (He.ga K "_law_are") fd
  f_l_row : ∃ fd, FunD K "_law_row" "_law_row" (defArgs s_l_row) (defBody s_l_row) (defScope s_l_row) [] [] (He.ga K "_law_row") fd
  f_l_program : ∃ fd, FunD K "_law_program" "_law_program" (defArgs s_l_program) (defBody s_l_program) (defScope s_l_program) [] [] (He.ga K "_law_program") fd
  f_l_is : ∃ fd, FunD K "_law_is" "_law_is" (defArgs s_l_is) (defBody s_l_is) (defScope s_l_is) [] [] (He.ga K "_law_is") fd
  f_l_is_row : ∃ fd, FunD K "_law_is_row" "_law_is_row" (defArgs s_l_is_row) (defBody s_l_is_row) (defScope s_l_is_row) [] [] (He.ga K "_law_is_row") fd
  f_l_first_row : ∃ fd, FunD K "_law_first_row" "_law_first_row" (defArgs s_l_first_row) (defBody s_l_first_row) (defScope s_l_first_row) [] [] (He.ga K "_law_first_row") fd
  f_l_odd : ∃ fd, FunD K "_law_odd" "_law_odd" (defArgs s_l_odd) (defBody s_l_odd) (defScope s_l_odd) [] [] (He.ga K "_law_odd") fd
  f_l_bent_row : ∃ fd, FunD K "_law_bent_row" "_law_bent_row" (defArgs s_l_bent_row) (defBody s_l_bent_row) (defScope s_l_bent_row) [] [] (He.ga K "_law_bent_row") fd
  f_l_doors : ∃ fd, FunD K "_law_doors" "_law_doors" (defArgs s_l_doors) (defBody s_l_doors) (defScope s_l_doors) [] [] (He.ga K "_law_doors") fd
  f_l_windows : ∃ fd, FunD K "_law_windows" "_law_windows" (defArgs s_l_windows) (defBody s_l_windows) (defScope s_l_windows) [] [] (He.ga K "_law_windows") fd
  f_law : ∃ fd, FunD K "law" "law" (defArgs s_law) (defBody s_law) (defScope s_law) [] [] (He.ga K "law") fd
  d_FORMS : ∃ es n, KDict K w (He.ga K "FORMS") es n
  d_BOUNDS : ∃ es n, KDict K w (He.ga K "BOUNDS") es n
  tt_GREEDS : ∀ H, SqT K H (He.ga K "GREEDS") [.str "all", .str "turn", .str "idle"]
  tt_DEEDS : ∀ H, SqT K H (He.ga K "DEEDS") [.str "get", .str "put"]
  tt_WORDLESS : ∀ H, SqT K H (He.ga K "WORDLESS") [.str "waits", .str "goes", .str "ends"]
  e_FORMS_set : Ent K "FORMS" "set" [.str "cell", .str "word"]
  e_FORMS_add : Ent K "FORMS" "add" [.str "cell", .str "cell"]
  e_FORMS_less : Ent K "FORMS" "less" [.str "cell", .str "cell"]
  e_FORMS_get : Ent K "FORMS" "get" [.str "cell", .str "address"]
  e_FORMS_put : Ent K "FORMS" "put" [.str "address", .str "cell"]
  e_FORMS_getx : Ent K "FORMS" "getx" [.str "cell", .str "cell"]
  e_FORMS_putx : Ent K "FORMS" "putx" [.str "cell", .str "cell"]
  e_FORMS_pair : Ent K "FORMS" "pair" [.str "first", .str "address"]
  e_FORMS_lay : Ent K "FORMS" "lay" [.str "address", .str "first"]
  e_FORMS_go : Ent K "FORMS" "go" [.str "row"]
  e_FORMS_if : Ent K "FORMS" "if" [.str "cell", .str "row"]
  e_FORMS_ask : Ent K "FORMS" "ask" [.str "work"]
  e_FORMS_done : Ent K "FORMS" "done" [.str "cell", .str "work"]
  e_FORMS_mark : Ent K "FORMS" "mark" [.str "mark"]
  e_FORMS_clear : Ent K "FORMS" "clear" [.str "mark"]
  e_FORMS_rest : Ent K "FORMS" "rest" [.str "rest"]
  e_FORMS_end : Ent K "FORMS" "end" []
  e_BOUNDS_cell : Ent K "BOUNDS" "cell" [.int 0, .int 3]
  e_BOUNDS_first : Ent K "BOUNDS" "first" [.int 0, .int 2]
  e_BOUNDS_word : Ent K "BOUNDS" "word" [.int 0, .int 999]
  e_BOUNDS_address : Ent K "BOUNDS" "address" [.int 0, .int 31]
  e_BOUNDS_work : Ent K "BOUNDS" "work" [.int 0, .int 5]
  e_BOUNDS_mark : Ent K "BOUNDS" "mark" [.int 0, .int 2]
  e_BOUNDS_rest : Ent K "BOUNDS" "rest" [.int 1, .int 9]
  e_BOUNDS_many : Ent K "BOUNDS" "many" [.int 1, .int 16]
  e_BOUNDS_block : Ent K "BOUNDS" "block" [.int 1, .int 4]
  e_BOUNDS_ask : Ent K "BOUNDS" "ask" [.int 0, .int 200]
  x_bad_BadProgram : PySem.BadX.badB K "BadProgram" "at" "row " " of the program can't be" "/claim/cut.py" = true
  x_is_BadProgram : PySem.BadX.IsT K "BadProgram" ["BadMemory", "BadBeats", "BadWindow", "BadClaim", "BadRow", "Crooked", "BadProgram", "BadWorks", "BadAsks", "BadLog", "BadText"]
  x_bad_BadWorks : PySem.BadX.badB K "BadWorks" "at" "work " " can't be" "/claim/cut.py" = true
  x_is_BadWorks : PySem.BadX.IsT K "BadWorks" ["BadMemory", "BadBeats", "BadWindow", "BadClaim", "BadRow", "Crooked", "BadProgram", "BadWorks", "BadAsks", "BadLog", "BadText"]
  x_tabs : ([(He.cT K ("_law_doors", none)).2, (He.cT K ("_law_windows", none)).2, (He.cT K ("law", none)).2] : List PySem.Addr).Nodup
  x_keys_FORMS : KeysT K (He.ga K "FORMS") ["set", "add", "less", "get", "put", "getx", "putx", "pair", "lay", "go", "if", "ask", "done", "mark", "clear", "rest", "end"]
  k_is_number : PySem.W.keepIn K (.ref (He.ga K "is_number")) = true
  k_is_part : PySem.W.keepIn K (.ref (He.ga K "is_part")) = true
  k_is_one_of : PySem.W.keepIn K (.ref (He.ga K "is_one_of")) = true
  k_is_row : PySem.W.keepIn K (.ref (He.ga K "is_row")) = true
  k_is_work : PySem.W.keepIn K (.ref (He.ga K "is_work")) = true
  k_is_ask : PySem.W.keepIn K (.ref (He.ga K "is_ask")) = true
  k_is_window : PySem.W.keepIn K (.ref (He.ga K "is_window")) = true
  k_is_pair : PySem.W.keepIn K (.ref (He.ga K "is_pair")) = true
  k_is_claim : PySem.W.keepIn K (.ref (He.ga K "is_claim")) = true
  k_is_deed : PySem.W.keepIn K (.ref (He.ga K "is_deed")) = true
  k_is_moved : PySem.W.keepIn K (.ref (He.ga K "is_moved")) = true
  k_is_told : PySem.W.keepIn K (.ref (He.ga K "is_told")) = true
  k_check_program : PySem.W.keepIn K (.ref (He.ga K "check_program")) = true
  k_check_works : PySem.W.keepIn K (.ref (He.ga K "check_works")) = true
  k_check_memory : PySem.W.keepIn K (.ref (He.ga K "check_memory")) = true
  k_check_asks : PySem.W.keepIn K (.ref (He.ga K "check_asks")) = true
  k_check_hall : PySem.W.keepIn K (.ref (He.ga K "check_hall")) = true
  k_check_beats : PySem.W.keepIn K (.ref (He.ga K "check_beats")) = true
  k_check_window : PySem.W.keepIn K (.ref (He.ga K "check_window")) = true
  k_check_windowed : PySem.W.keepIn K (.ref (He.ga K "check_windowed")) = true
  k_check_claim : PySem.W.keepIn K (.ref (He.ga K "check_claim")) = true
  k_check_pair : PySem.W.keepIn K (.ref (He.ga K "check_pair")) = true
  k_check_mark : PySem.W.keepIn K (.ref (He.ga K "check_mark")) = true
  k_check_address : PySem.W.keepIn K (.ref (He.ga K "check_address")) = true
  k_check_log : PySem.W.keepIn K (.ref (He.ga K "check_log")) = true
  k_check_straight : PySem.W.keepIn K (.ref (He.ga K "check_straight")) = true
  k_beats_of : PySem.W.keepIn K (.ref (He.ga K "beats_of")) = true
  k_word_of : PySem.W.keepIn K (.ref (He.ga K "word_of")) = true
  k_run : PySem.W.keepIn K (.ref (He.ga K "run")) = true
  k_check_ahead : PySem.W.keepIn K (.ref (He.ga K "check_ahead")) = true
  k_watched : PySem.W.keepIn K (.ref (He.ga K "watched")) = true
  k_row_times : PySem.W.keepIn K (.ref (He.ga K "row_times")) = true
  k_times : PySem.W.keepIn K (.ref (He.ga K "times")) = true
  k_overs : PySem.W.keepIn K (.ref (He.ga K "overs")) = true
  k_least_and_most : PySem.W.keepIn K (.ref (He.ga K "least_and_most")) = true
  k_spread : PySem.W.keepIn K (.ref (He.ga K "spread")) = true
  k_judged : PySem.W.keepIn K (.ref (He.ga K "judged")) = true
  k_lays_at : PySem.W.keepIn K (.ref (He.ga K "lays_at")) = true
  k_laid_ahead : PySem.W.keepIn K (.ref (He.ga K "laid_ahead")) = true
  k_is_torn : PySem.W.keepIn K (.ref (He.ga K "is_torn")) = true
  k_tears : PySem.W.keepIn K (.ref (He.ga K "tears")) = true
  k_is_whole : PySem.W.keepIn K (.ref (He.ga K "is_whole")) = true
  k_tears_within : PySem.W.keepIn K (.ref (He.ga K "tears_within")) = true
  k_torns : PySem.W.keepIn K (.ref (He.ga K "torns")) = true
  k_first_torn : PySem.W.keepIn K (.ref (He.ga K "first_torn")) = true
  k_is_over : PySem.W.keepIn K (.ref (He.ga K "is_over")) = true
  k_is_kept : PySem.W.keepIn K (.ref (He.ga K "is_kept")) = true
  k_holds : PySem.W.keepIn K (.ref (He.ga K "holds")) = true
  k_leans : PySem.W.keepIn K (.ref (He.ga K "leans")) = true
  k_part_text : PySem.W.keepIn K (.ref (He.ga K "part_text")) = true
  k_row_text : PySem.W.keepIn K (.ref (He.ga K "row_text")) = true
  k_written : PySem.W.keepIn K (.ref (He.ga K "written")) = true
  k_is_always_whole : PySem.W.keepIn K (.ref (He.ga K "is_always_whole")) = true
  k_fewest : PySem.W.keepIn K (.ref (He.ga K "fewest")) = true
  k_rests : PySem.W.keepIn K (.ref (He.ga K "rests")) = true
  k_guards : PySem.W.keepIn K (.ref (He.ga K "guards")) = true
  k_deeds : PySem.W.keepIn K (.ref (He.ga K "deeds")) = true
  k_sights : PySem.W.keepIn K (.ref (He.ga K "sights")) = true
  k_worths : PySem.W.keepIn K (.ref (He.ga K "worths")) = true
  k_l_dice : PySem.W.keepIn K (.ref (He.ga K "_law_dice")) = true
  k_l_off : PySem.W.keepIn K (.ref (He.ga K "_law_off")) = true
  k_l_word : PySem.W.keepIn K (.ref (He.ga K "_law_word")) = true
  k_l_are : PySem.W.keepIn K (.ref (He.ga K "_law_are")) = true
  k_l_row : PySem.W.keepIn K (.ref (He.ga K "_law_row")) = true
  k_l_program : PySem.W.keepIn K (.ref (He.ga K "_law_program")) = true
  k_l_is : PySem.W.keepIn K (.ref (He.ga K "_law_is")) = true
  k_l_is_row : PySem.W.keepIn K (.ref (He.ga K "_law_is_row")) = true
  k_l_first_row : PySem.W.keepIn K (.ref (He.ga K "_law_first_row")) = true
  k_l_odd : PySem.W.keepIn K (.ref (He.ga K "_law_odd")) = true
  k_l_bent_row : PySem.W.keepIn K (.ref (He.ga K "_law_bent_row")) = true
  k_l_doors : PySem.W.keepIn K (.ref (He.ga K "_law_doors")) = true
  k_l_windows : PySem.W.keepIn K (.ref (He.ga K "_law_windows")) = true
  k_law : PySem.W.keepIn K (.ref (He.ga K "law")) = true
end SB

set_option Elab.async false
set_option linter.all false
set_option maxRecDepth 100000
set_option maxHeartbeats 2000000
namespace SB
open PySem
def obsL (as : List Addr) (fa : List He.Fa) (fn : List He.DefD) (ts : List He.Tab) (tf : List He.Defn) (ex : PySem.W.Frag → Bool) (g : Addr → Option Obj) : He.AlX := (He.obsT fa fn ts (He.frT g as), ex (He.frT g as) && He.tabsB g tf (He.frT g as))
section
variable {as : List Addr} {fa : List He.Fa} {fn : List He.DefD} {ts : List He.Tab} {tf : List He.Defn} {ex : PySem.W.Frag → Bool} {w : World}
theorem saysL_of {h : Heap} (e : obsL as fa fn ts tf ex h.get? = He.valX fn ts w) : He.SaysX fa fn ts tf ex w h (He.frT h.get? as) := by
  have e1 : He.obsT fa fn ts (He.frT h.get? as) = He.valT fn ts w := congrArg (fun z : He.AlX => z.1) e
  have e2 : (ex (He.frT h.get? as) && He.tabsB h.get? tf (He.frT h.get? as)) = true := congrArg (fun z : He.AlX => z.2) e
  rw [Bool.and_eq_true] at e2
  obtain ⟨h1, h2⟩ := e2
  generalize hK : He.frT h.get? as = K at e1 h1 h2 ⊢
  have key : ∀ p ∈ tf, PySem.W.codeHdIn K (He.cT K p).1 (He.cT K p).2 = true ∧ ∃ o, h.get? (He.cT K p).2 = some o ∧ He.emptyTab o = true := fun p hp => by
    have h3 := List.all_eq_true.mp h2 p hp
    rw [Bool.and_eq_true] at h3
    refine ⟨h3.1, ?_⟩
    have h4 := h3.2
    cases q : h.get? (He.cT K p).2 with
    | none => rw [q] at h4; cases h4
    | some o => rw [q] at h4; exact ⟨o, rfl, h4⟩
  refine ⟨e1, h1, fun p hp => (key p hp).1, fun p hp => ?_, fun p hp => ?_⟩
  · obtain ⟨_, o, q, z⟩ := key p hp
    rw [← hK] at q ⊢
    exact He.frT_none q z
  · obtain ⟨_, o, q, z⟩ := key p hp
    rw [q, He.emptyTab_eq z]
end
def hookL (as : List Addr) (fa : List He.Fa) (fn : List He.DefD) (ts : List He.Tab) (tf : List He.Defn) (ex : PySem.W.Frag → Bool) : PySem.W.Hook where
  α := He.AlX
  obs := fun s => obsL as fa fn ts tf ex s.heap.get?
  val := fun w => He.valX fn ts w
  says := fun w h => ∃ K : PySem.W.Frag, K.In h ∧ He.SaysX fa fn ts tf ex w h K
  of := fun _ _ e => ⟨_, He.frT_in, saysL_of e⟩
  keeps := fun _ _ _ ⟨K, hK, c⟩ k => ⟨K, PySem.W.Frag.In.keeps hK k, ⟨c.t, c.more, c.hd, c.out, fun p hp => k _ _ (c.empty p hp)⟩⟩
theorem obsL_eq {as : List Addr} {fa : List He.Fa} {fn : List He.DefD} {ts : List He.Tab} {tf : List He.Defn} {ex : PySem.W.Frag → Bool} {g : Addr → Option Obj} {s : Shared} (h : ∀ a, g a = s.heap.get? a) : obsL as fa fn ts tf ex g = (hookL as fa fn ts tf ex).obs s := by
  have e : g = s.heap.get? := funext h
  rw [e] <;> rfl
end SB

set_option Elab.async false
set_option linter.all false
set_option maxRecDepth 100000
set_option maxHeartbeats 2000000
set_option maxHeartbeats 0
namespace SB
open PySem PySem.Spec PyProof.Rows L2
def d_is_number : He.DefD := ⟨("is_number", none), "is_number", "is_number", defArgs s_is_number, defBody s_is_number, defScope s_is_number, [], []⟩
def d_is_part : He.DefD := ⟨("is_part", none), "is_part", "is_part", defArgs s_is_part, defBody s_is_part, defScope s_is_part, [], []⟩
def d_is_one_of : He.DefD := ⟨("is_one_of", none), "is_one_of", "is_one_of", defArgs s_is_one_of, defBody s_is_one_of, defScope s_is_one_of, [], []⟩
def d_is_row : He.DefD := ⟨("is_row", none), "is_row", "is_row", defArgs s_is_row, defBody s_is_row, defScope s_is_row, [], []⟩
def d_is_work : He.DefD := ⟨("is_work", none), "is_work", "is_work", defArgs s_is_work, defBody s_is_work, defScope s_is_work, [], []⟩
def d_is_ask : He.DefD := ⟨("is_ask", none), "is_ask", "is_ask", defArgs s_is_ask, defBody s_is_ask, defScope s_is_ask, [], []⟩
def d_is_window : He.DefD := ⟨("is_window", none), "is_window", "is_window", defArgs s_is_window, defBody s_is_window, defScope s_is_window, [], []⟩
def d_is_pair : He.DefD := ⟨("is_pair", none), "is_pair", "is_pair", defArgs s_is_pair, defBody s_is_pair, defScope s_is_pair, [], []⟩
def d_is_claim : He.DefD := ⟨("is_claim", none), "is_claim", "is_claim", defArgs s_is_claim, defBody s_is_claim, defScope s_is_claim, [], []⟩
def d_is_deed : He.DefD := ⟨("is_deed", none), "is_deed", "is_deed", defArgs s_is_deed, defBody s_is_deed, defScope s_is_deed, [], []⟩
def d_is_moved : He.DefD := ⟨("is_moved", none), "is_moved", "is_moved", defArgs s_is_moved, defBody s_is_moved, defScope s_is_moved, [], []⟩
def d_is_told : He.DefD := ⟨("is_told", none), "is_told", "is_told", defArgs s_is_told, defBody s_is_told, defScope s_is_told, [], []⟩
def d_check_program : He.DefD := ⟨("check_program", none), "check_program", "check_program", defArgs s_check_program, defBody s_check_program, defScope s_check_program, [], []⟩
def d_check_works : He.DefD := ⟨("check_works", none), "check_works", "check_works", defArgs s_check_works, defBody s_check_works, defScope s_check_works, [], []⟩
def d_check_memory : He.DefD := ⟨("check_memory", none), "check_memory", "check_memory", defArgs s_check_memory, defBody s_check_memory, defScope s_check_memory, [], []⟩
def d_check_asks : He.DefD := ⟨("check_asks", none), "check_asks", "check_asks", defArgs s_check_asks, defBody s_check_asks, defScope s_check_asks, [], []⟩
def d_check_hall : He.DefD := ⟨("check_hall", none), "check_hall", "check_hall", defArgs s_check_hall, defBody s_check_hall, defScope s_check_hall, [], []⟩
def d_check_beats : He.DefD := ⟨("check_beats", none), "check_beats", "check_beats", defArgs s_check_beats, defBody s_check_beats, defScope s_check_beats, [], []⟩
def d_check_window : He.DefD := ⟨("check_window", none), "check_window", "check_window", defArgs s_check_window, defBody s_check_window, defScope s_check_window, [], []⟩
def d_check_windowed : He.DefD := ⟨("check_windowed", none), "check_windowed", "check_windowed", defArgs s_check_windowed, defBody s_check_windowed, defScope s_check_windowed, [], []⟩
def d_check_claim : He.DefD := ⟨("check_claim", none), "check_claim", "check_claim", defArgs s_check_claim, defBody s_check_claim, defScope s_check_claim, [], []⟩
def d_check_pair : He.DefD := ⟨("check_pair", none), "check_pair", "check_pair", defArgs s_check_pair, defBody s_check_pair, defScope s_check_pair, [], []⟩
def d_check_mark : He.DefD := ⟨("check_mark", none), "check_mark", "check_mark", defArgs s_check_mark, defBody s_check_mark, defScope s_check_mark, [], []⟩
def d_check_address : He.DefD := ⟨("check_address", none), "check_address", "check_address", defArgs s_check_address, defBody s_check_address, defScope s_check_address, [], []⟩
def d_check_log : He.DefD := ⟨("check_log", none), "check_log", "check_log", defArgs s_check_log, defBody s_check_log, defScope s_check_log, [], []⟩
def d_check_straight : He.DefD := ⟨("check_straight", none), "check_straight", "check_straight", defArgs s_check_straight, defBody s_check_straight, defScope s_check_straight, [], []⟩
def d_Going_init : He.DefD := ⟨("Going", some "__init__"), "__init__", "Going.__init__", defArgs s_Going_init, defBody s_Going_init, defScope s_Going_init, [], []⟩
def d_Work_init : He.DefD := ⟨("Work", some "__init__"), "__init__", "Work.__init__", defArgs s_Work_init, defBody s_Work_init, defScope s_Work_init, [], []⟩
def d_Work_held_off : He.DefD := ⟨("Work", some "held_off"), "held_off", "Work.held_off", defArgs s_Work_held_off, defBody s_Work_held_off, defScope s_Work_held_off, [], []⟩
def d_Work_may_take : He.DefD := ⟨("Work", some "may_take"), "may_take", "Work.may_take", defArgs s_Work_may_take, defBody s_Work_may_take, defScope s_Work_may_take, [], []⟩
def d_Work_move : He.DefD := ⟨("Work", some "move"), "move", "Work.move", defArgs s_Work_move, defBody s_Work_move, defScope s_Work_move, [], []⟩
def d_Work_fetch : He.DefD := ⟨("Work", some "fetch"), "fetch", "Work.fetch", defArgs s_Work_fetch, defBody s_Work_fetch, defScope s_Work_fetch, [], []⟩
def d_Work_lay : He.DefD := ⟨("Work", some "lay"), "lay", "Work.lay", defArgs s_Work_lay, defBody s_Work_lay, defScope s_Work_lay, [], []⟩
def d_Device_init : He.DefD := ⟨("Device", some "__init__"), "__init__", "Device.__init__", defArgs s_Device_init, defBody s_Device_init, defScope s_Device_init, [], []⟩
def d_Device_is_on : He.DefD := ⟨("Device", some "is_on"), "is_on", "Device.is_on", defArgs s_Device_is_on, defBody s_Device_is_on, defScope s_Device_is_on, [], []⟩
def d_Device_wake : He.DefD := ⟨("Device", some "wake"), "wake", "Device.wake", defArgs s_Device_wake, defBody s_Device_wake, defScope s_Device_wake, [], []⟩
def d_Device_start : He.DefD := ⟨("Device", some "start"), "start", "Device.start", defArgs s_Device_start, defBody s_Device_start, defScope s_Device_start, [], []⟩
def d_Device_move : He.DefD := ⟨("Device", some "move"), "move", "Device.move", defArgs s_Device_move, defBody s_Device_move, defScope s_Device_move, [], []⟩
def d_Device_taker : He.DefD := ⟨("Device", some "taker"), "taker", "Device.taker", defArgs s_Device_taker, defBody s_Device_taker, defScope s_Device_taker, [], []⟩
def d_Device_numbers_on : He.DefD := ⟨("Device", some "numbers_on"), "numbers_on", "Device.numbers_on", defArgs s_Device_numbers_on, defBody s_Device_numbers_on, defScope s_Device_numbers_on, [], []⟩
def d_Device_shown_on : He.DefD := ⟨("Device", some "shown_on"), "shown_on", "Device.shown_on", defArgs s_Device_shown_on, defBody s_Device_shown_on, defScope s_Device_shown_on, [], []⟩
def d_beats_of : He.DefD := ⟨("beats_of", none), "beats_of", "beats_of", defArgs s_beats_of, defBody s_beats_of, defScope s_beats_of, [], []⟩
def d_word_of : He.DefD := ⟨("word_of", none), "word_of", "word_of", defArgs s_word_of, defBody s_word_of, defScope s_word_of, [], []⟩
def d_Machine_init : He.DefD := ⟨("Machine", some "__init__"), "__init__", "Machine.__init__", defArgs s_Machine_init, defBody s_Machine_init, defScope s_Machine_init, [], []⟩
def d_Machine_ended : He.DefD := ⟨("Machine", some "ended"), "ended", "Machine.ended", defArgs s_Machine_ended, defBody s_Machine_ended, defScope s_Machine_ended, [], []⟩
def d_Machine_wanted : He.DefD := ⟨("Machine", some "wanted"), "wanted", "Machine.wanted", defArgs s_Machine_wanted, defBody s_Machine_wanted, defScope s_Machine_wanted, [], []⟩
def d_Machine_step : He.DefD := ⟨("Machine", some "step"), "step", "Machine.step", defArgs s_Machine_step, defBody s_Machine_step, defScope s_Machine_step, [], []⟩
def d_Machine_use_word : He.DefD := ⟨("Machine", some "use_word"), "use_word", "Machine.use_word", defArgs s_Machine_use_word, defBody s_Machine_use_word, defScope s_Machine_use_word, [], []⟩
def d_Machine_finish : He.DefD := ⟨("Machine", some "finish"), "finish", "Machine.finish", defArgs s_Machine_finish, defBody s_Machine_finish, defScope s_Machine_finish, [], []⟩
def d_Machine_reckoned : He.DefD := ⟨("Machine", some "reckoned"), "reckoned", "Machine.reckoned", defArgs s_Machine_reckoned, defBody s_Machine_reckoned, defScope s_Machine_reckoned, [], []⟩
def d_Floor_init : He.DefD := ⟨("Floor", some "__init__"), "__init__", "Floor.__init__", defArgs s_Floor_init, defBody s_Floor_init, defScope s_Floor_init, [], []⟩
def d_Floor_pass_beat : He.DefD := ⟨("Floor", some "pass_beat"), "pass_beat", "Floor.pass_beat", defArgs s_Floor_pass_beat, defBody s_Floor_pass_beat, defScope s_Floor_pass_beat, [], []⟩
def d_Floor_seen : He.DefD := ⟨("Floor", some "seen"), "seen", "Floor.seen", defArgs s_Floor_seen, defBody s_Floor_seen, defScope s_Floor_seen, [], []⟩
def d_Hall_init : He.DefD := ⟨("Hall", some "__init__"), "__init__", "Hall.__init__", defArgs s_Hall_init, defBody s_Hall_init, defScope s_Hall_init, [], []⟩
def d_Hall_beat : He.DefD := ⟨("Hall", some "beat"), "beat", "Hall.beat", defArgs s_Hall_beat, defBody s_Hall_beat, defScope s_Hall_beat, [], []⟩
def d_Hall_shown : He.DefD := ⟨("Hall", some "shown"), "shown", "Hall.shown", defArgs s_Hall_shown, defBody s_Hall_shown, defScope s_Hall_shown, [], []⟩
def d_run : He.DefD := ⟨("run", none), "run", "run", defArgs s_run, defBody s_run, defScope s_run, [], []⟩
def d_Watch_init : He.DefD := ⟨("Watch", some "__init__"), "__init__", "Watch.__init__", defArgs s_Watch_init, defBody s_Watch_init, defScope s_Watch_init, [], []⟩
def d_Watch_run : He.DefD := ⟨("Watch", some "run"), "run", "Watch.run", defArgs s_Watch_run, defBody s_Watch_run, defScope s_Watch_run, [], []⟩
def d_Watch_run_till : He.DefD := ⟨("Watch", some "run_till"), "run_till", "Watch.run_till", defArgs s_Watch_run_till, defBody s_Watch_run_till, defScope s_Watch_run_till, [], []⟩
def d_Watch_step : He.DefD := ⟨("Watch", some "step"), "step", "Watch.step", defArgs s_Watch_step, defBody s_Watch_step, defScope s_Watch_step, [], []⟩
def d_Watch_note_get : He.DefD := ⟨("Watch", some "note_get"), "note_get", "Watch.note_get", defArgs s_Watch_note_get, defBody s_Watch_note_get, defScope s_Watch_note_get, [], []⟩
def d_check_ahead : He.DefD := ⟨("check_ahead", none), "check_ahead", "check_ahead", defArgs s_check_ahead, defBody s_check_ahead, defScope s_check_ahead, [], []⟩
def d_watched : He.DefD := ⟨("watched", none), "watched", "watched", defArgs s_watched, defBody s_watched, defScope s_watched, [], []⟩
def d_row_times : He.DefD := ⟨("row_times", none), "row_times", "row_times", defArgs s_row_times, defBody s_row_times, defScope s_row_times, [], []⟩
def d_times : He.DefD := ⟨("times", none), "times", "times", defArgs s_times, defBody s_times, defScope s_times, [], []⟩
def d_overs : He.DefD := ⟨("overs", none), "overs", "overs", defArgs s_overs, defBody s_overs, defScope s_overs, [], []⟩
def d_least_and_most : He.DefD := ⟨("least_and_most", none), "least_and_most", "least_and_most", defArgs s_least_and_most, defBody s_least_and_most, defScope s_least_and_most, [], []⟩
def d_spread : He.DefD := ⟨("spread", none), "spread", "spread", defArgs s_spread, defBody s_spread, defScope s_spread, [], []⟩
def d_judged : He.DefD := ⟨("judged", none), "judged", "judged", defArgs s_judged, defBody s_judged, defScope s_judged, [], []⟩
def d_lays_at : He.DefD := ⟨("lays_at", none), "lays_at", "lays_at", defArgs s_lays_at, defBody s_lays_at, defScope s_lays_at, [], []⟩
def d_laid_ahead : He.DefD := ⟨("laid_ahead", none), "laid_ahead", "laid_ahead", defArgs s_laid_ahead, defBody s_laid_ahead, defScope s_laid_ahead, [], []⟩
def d_is_torn : He.DefD := ⟨("is_torn", none), "is_torn", "is_torn", defArgs s_is_torn, defBody s_is_torn, defScope s_is_torn, [], []⟩
def d_tears : He.DefD := ⟨("tears", none), "tears", "tears", defArgs s_tears, defBody s_tears, defScope s_tears, [], []⟩
def d_is_whole : He.DefD := ⟨("is_whole", none), "is_whole", "is_whole", defArgs s_is_whole, defBody s_is_whole, defScope s_is_whole, [], []⟩
def d_tears_within : He.DefD := ⟨("tears_within", none), "tears_within", "tears_within", defArgs s_tears_within, defBody s_tears_within, defScope s_tears_within, [], []⟩
def d_torns : He.DefD := ⟨("torns", none), "torns", "torns", defArgs s_torns, defBody s_torns, defScope s_torns, [], []⟩
def d_first_torn : He.DefD := ⟨("first_torn", none), "first_torn", "first_torn", defArgs s_first_torn, defBody s_first_torn, defScope s_first_torn, [], []⟩
def d_is_over : He.DefD := ⟨("is_over", none), "is_over", "is_over", defArgs s_is_over, defBody s_is_over, defScope s_is_over, [], []⟩
def d_is_kept : He.DefD := ⟨("is_kept", none), "is_kept", "is_kept", defArgs s_is_kept, defBody s_is_kept, defScope s_is_kept, [], []⟩
def d_holds : He.DefD := ⟨("holds", none), "holds", "holds", defArgs s_holds, defBody s_holds, defScope s_holds, [], []⟩
def d_leans : He.DefD := ⟨("leans", none), "leans", "leans", defArgs s_leans, defBody s_leans, defScope s_leans, [], []⟩
def d_part_text : He.DefD := ⟨("part_text", none), "part_text", "part_text", defArgs s_part_text, defBody s_part_text, defScope s_part_text, [], []⟩
def d_row_text : He.DefD := ⟨("row_text", none), "row_text", "row_text", defArgs s_row_text, defBody s_row_text, defScope s_row_text, [], []⟩
def d_written : He.DefD := ⟨("written", none), "written", "written", defArgs s_written, defBody s_written, defScope s_written, [], []⟩
def d_is_always_whole : He.DefD := ⟨("is_always_whole", none), "is_always_whole", "is_always_whole", defArgs s_is_always_whole, defBody s_is_always_whole, defScope s_is_always_whole, [], []⟩
def d_fewest : He.DefD := ⟨("fewest", none), "fewest", "fewest", defArgs s_fewest, defBody s_fewest, defScope s_fewest, [], []⟩
def d_rests : He.DefD := ⟨("rests", none), "rests", "rests", defArgs s_rests, defBody s_rests, defScope s_rests, [], []⟩
def d_guards : He.DefD := ⟨("guards", none), "guards", "guards", defArgs s_guards, defBody s_guards, defScope s_guards, [], []⟩
def d_deeds : He.DefD := ⟨("deeds", none), "deeds", "deeds", defArgs s_deeds, defBody s_deeds, defScope s_deeds, [], []⟩
def d_sights : He.DefD := ⟨("sights", none), "sights", "sights", defArgs s_sights, defBody s_sights, defScope s_sights, [], []⟩
def d_worths : He.DefD := ⟨("worths", none), "worths", "worths", defArgs s_worths, defBody s_worths, defScope s_worths, [], []⟩
def d_l_dice : He.DefD := ⟨("_law_dice", none), "_law_dice", "_law_dice", defArgs s_l_dice, defBody s_l_dice, defScope s_l_dice, [], []⟩
def d_l_off : He.DefD := ⟨("_law_off", none), "_law_off", "_law_off", defArgs s_l_off, defBody s_l_off, defScope s_l_off, [], []⟩
def d_l_word : He.DefD := ⟨("_law_word", none), "_law_word", "_law_word", defArgs s_l_word, defBody s_l_word, defScope s_l_word, [], []⟩
def d_l_are : He.DefD := ⟨("_law_are", none), "_law_are", "_law_are", defArgs s_l_are, defBody s_l_are, defScope s_l_are, [], []⟩
def d_l_row : He.DefD := ⟨("_law_row", none), "_law_row", "_law_row", defArgs s_l_row, defBody s_l_row, defScope s_l_row, [], []⟩
def d_l_program : He.DefD := ⟨("_law_program", none), "_law_program", "_law_program", defArgs s_l_program, defBody s_l_program, defScope s_l_program, [], []⟩
def d_l_is : He.DefD := ⟨("_law_is", none), "_law_is", "_law_is", defArgs s_l_is, defBody s_l_is, defScope s_l_is, [], []⟩
def d_l_is_row : He.DefD := ⟨("_law_is_row", none), "_law_is_row", "_law_is_row", defArgs s_l_is_row, defBody s_l_is_row, defScope s_l_is_row, [], []⟩
def d_l_first_row : He.DefD := ⟨("_law_first_row", none), "_law_first_row", "_law_first_row", defArgs s_l_first_row, defBody s_l_first_row, defScope s_l_first_row, [], []⟩
def d_l_odd : He.DefD := ⟨("_law_odd", none), "_law_odd", "_law_odd", defArgs s_l_odd, defBody s_l_odd, defScope s_l_odd, [], []⟩
def d_l_bent_row : He.DefD := ⟨("_law_bent_row", none), "_law_bent_row", "_law_bent_row", defArgs s_l_bent_row, defBody s_l_bent_row, defScope s_l_bent_row, [], []⟩
def d_l_doors : He.DefD := ⟨("_law_doors", none), "_law_doors", "_law_doors", defArgs s_l_doors, defBody s_l_doors, defScope s_l_doors, [], []⟩
def d_l_windows : He.DefD := ⟨("_law_windows", none), "_law_windows", "_law_windows", defArgs s_l_windows, defBody s_l_windows, defScope s_l_windows, [], []⟩
def d_law : He.DefD := ⟨("law", none), "law", "law", defArgs s_law, defBody s_law, defScope s_law, [], []⟩
def fn : List He.DefD := ([d_is_number, d_is_part, d_is_one_of, d_is_row, d_is_work, d_is_ask, d_is_window, d_is_pair, d_is_claim, d_is_deed] : List He.DefD) ++ ([d_is_moved, d_is_told, d_check_program, d_check_works, d_check_memory, d_check_asks, d_check_hall, d_check_beats, d_check_window, d_check_windowed] : List He.DefD) ++ ([d_check_claim, d_check_pair, d_check_mark, d_check_address, d_check_log, d_check_straight, d_Going_init, d_Work_init, d_Work_held_off, d_Work_may_take] : List He.DefD) ++ ([d_Work_move, d_Work_fetch, d_Work_lay, d_Device_init, d_Device_is_on, d_Device_wake, d_Device_start, d_Device_move, d_Device_taker, d_Device_numbers_on] : List He.DefD) ++ ([d_Device_shown_on, d_beats_of, d_word_of, d_Machine_init, d_Machine_ended, d_Machine_wanted, d_Machine_step, d_Machine_use_word, d_Machine_finish, d_Machine_reckoned] : List He.DefD) ++ ([d_Floor_init, d_Floor_pass_beat, d_Floor_seen, d_Hall_init, d_Hall_beat, d_Hall_shown, d_run, d_Watch_init, d_Watch_run, d_Watch_run_till] : List He.DefD) ++ ([d_Watch_step, d_Watch_note_get, d_check_ahead, d_watched, d_row_times, d_times, d_overs, d_least_and_most, d_spread, d_judged] : List He.DefD) ++ ([d_lays_at, d_laid_ahead, d_is_torn, d_tears, d_is_whole, d_tears_within, d_torns, d_first_torn, d_is_over, d_is_kept] : List He.DefD) ++ ([d_holds, d_leans, d_part_text, d_row_text, d_written, d_is_always_whole, d_fewest, d_rests, d_guards, d_deeds] : List He.DefD) ++ ([d_sights, d_worths, d_l_dice, d_l_off, d_l_word, d_l_are, d_l_row, d_l_program, d_l_is, d_l_is_row] : List He.DefD) ++ ([d_l_first_row, d_l_odd, d_l_bent_row, d_l_doors, d_l_windows, d_law] : List He.DefD)
def fa : List He.Fa := ([.glo "is_number", .glo "is_part", .glo "is_one_of", .glo "is_row", .glo "is_work", .glo "is_ask", .glo "is_window", .glo "is_pair", .glo "is_claim", .glo "is_deed"] : List He.Fa) ++ ([.glo "is_moved", .glo "is_told", .glo "check_program", .glo "check_works", .glo "check_memory", .glo "check_asks", .glo "check_hall", .glo "check_beats", .glo "check_window", .glo "check_windowed"] : List He.Fa) ++ ([.glo "check_claim", .glo "check_pair", .glo "check_mark", .glo "check_address", .glo "check_log", .glo "check_straight", .glo "beats_of", .glo "word_of", .glo "run", .glo "check_ahead"] : List He.Fa) ++ ([.glo "watched", .glo "row_times", .glo "times", .glo "overs", .glo "least_and_most", .glo "spread", .glo "judged", .glo "lays_at", .glo "laid_ahead", .glo "is_torn"] : List He.Fa) ++ ([.glo "tears", .glo "is_whole", .glo "tears_within", .glo "torns", .glo "first_torn", .glo "is_over", .glo "is_kept", .glo "holds", .glo "leans", .glo "part_text"] : List He.Fa) ++ ([.glo "row_text", .glo "written", .glo "is_always_whole", .glo "fewest", .glo "rests", .glo "guards", .glo "deeds", .glo "sights", .glo "worths", .glo "_law_dice"] : List He.Fa) ++ ([.glo "_law_off", .glo "_law_word", .glo "_law_are", .glo "_law_row", .glo "_law_program", .glo "_law_is", .glo "_law_is_row", .glo "_law_first_row", .glo "_law_odd", .glo "_law_bent_row"] : List He.Fa) ++ ([.glo "_law_doors", .glo "_law_windows", .glo "law", .glo "Going", .cls "Going", .mkr "Going", .noat "Going" "number", .noat "Going" "hand", .noat "Going" "puts", .glo "Work"] : List He.Fa) ++ ([.cls "Work", .mkr "Work", .noat "Work" "begin", .noat "Work" "goal", .noat "Work" "many", .noat "Work" "block", .noat "Work" "greed", .noat "Work" "mark", .noat "Work" "follow", .noat "Work" "going"] : List He.Fa) ++ ([.meth "Work" "held_off", .meth "Work" "may_take", .meth "Work" "move", .meth "Work" "fetch", .meth "Work" "lay", .glo "Device", .cls "Device", .mkr "Device", .noat "Device" "works", .noat "Device" "took"] : List He.Fa) ++ ([.noat "Device" "begun", .meth "Device" "is_on", .meth "Device" "wake", .meth "Device" "start", .meth "Device" "move", .meth "Device" "taker", .meth "Device" "numbers_on", .meth "Device" "shown_on", .glo "Machine", .cls "Machine"] : List He.Fa) ++ ([.mkr "Machine", .noat "Machine" "program", .noat "Machine" "cells", .noat "Machine" "marks", .noat "Machine" "row", .noat "Machine" "spent", .meth "Machine" "ended", .meth "Machine" "wanted", .meth "Machine" "step", .meth "Machine" "use_word"] : List He.Fa) ++ ([.meth "Machine" "finish", .meth "Machine" "reckoned", .glo "Floor", .cls "Floor", .mkr "Floor", .noat "Floor" "machine", .noat "Floor" "device", .noat "Floor" "words", .noat "Floor" "asks", .noat "Floor" "beats"] : List He.Fa) ++ ([.meth "Floor" "pass_beat", .meth "Floor" "seen", .glo "Hall", .cls "Hall", .mkr "Hall", .noat "Hall" "floor", .meth "Hall" "beat", .meth "Hall" "shown", .glo "Watch", .cls "Watch"] : List He.Fa) ++ ([.mkr "Watch", .noat "Watch" "floor", .noat "Watch" "dones", .noat "Watch" "on_behind", .noat "Watch" "pairs", .noat "Watch" "first_get", .noat "Watch" "goings", .meth "Watch" "run", .meth "Watch" "run_till", .meth "Watch" "step"] : List He.Fa) ++ ([.meth "Watch" "note_get", .glo "BeatError", .glo "BadMemory", .glo "BadBeats", .glo "BadWindow", .glo "BadClaim", .glo "BadRow", .glo "Crooked", .glo "BadProgram", .glo "BadWorks"] : List He.Fa) ++ ([.glo "BadAsks", .glo "BadLog", .glo "BadText", .free "abs", .free "bool", .free "enumerate", .free "int", .free "isinstance", .free "len", .free "list"] : List He.Fa) ++ ([.free "max", .free "min", .free "range", .free "str", .free "tuple", .free "zip", .free "ValueError", .free "super", .str "NOTHING" "-", .int "FEWEST_WORDS" 4] : List He.Fa) ++ ([.int "MOST_WORDS" 32, .int "MOST_ROWS" 40, .int "MOST_WORKS" 6, .int "MOST_ASKS" 8, .int "MOST_BEATS" 300, .int "WIDEST_WINDOW" 40, .int "CELLS" 4, .int "MARKS" 3, .int "WORTHS" 1000, .int "MOST_RESTS" 40] : List He.Fa) ++ ([.glo "GREEDS", .glo "DEEDS", .glo "WORDLESS", .glo "FORMS", .glo "BOUNDS"] : List He.Fa)
def tab_FORMS : He.Tab := (fun K => He.ga K "FORMS", ["set", "add", "less", "get", "put", "getx", "putx", "pair", "lay", "go", "if", "ask", "done", "mark", "clear", "rest", "end"])
def tab_BOUNDS : He.Tab := (fun K => He.ga K "BOUNDS", ["cell", "first", "word", "address", "work", "mark", "rest", "many", "block", "ask"])
def ts : List He.Tab := [tab_FORMS, tab_BOUNDS]
def exs : List (PySem.W.Frag → Bool) := ([(fun K => He.tupB K "GREEDS" [.str "all", .str "turn", .str "idle"]), (fun K => He.tupB K "DEEDS" [.str "get", .str "put"]), (fun K => He.tupB K "WORDLESS" [.str "waits", .str "goes", .str "ends"]), (fun K => entB K "FORMS" "set" [.str "cell", .str "word"]), (fun K => entB K "FORMS" "add" [.str "cell", .str "cell"]), (fun K => entB K "FORMS" "less" [.str "cell", .str "cell"]), (fun K => entB K "FORMS" "get" [.str "cell", .str "address"]), (fun K => entB K "FORMS" "put" [.str "address", .str "cell"])] : List (PySem.W.Frag → Bool)) ++ ([(fun K => entB K "FORMS" "getx" [.str "cell", .str "cell"]), (fun K => entB K "FORMS" "putx" [.str "cell", .str "cell"]), (fun K => entB K "FORMS" "pair" [.str "first", .str "address"]), (fun K => entB K "FORMS" "lay" [.str "address", .str "first"]), (fun K => entB K "FORMS" "go" [.str "row"]), (fun K => entB K "FORMS" "if" [.str "cell", .str "row"]), (fun K => entB K "FORMS" "ask" [.str "work"]), (fun K => entB K "FORMS" "done" [.str "cell", .str "work"])] : List (PySem.W.Frag → Bool)) ++ ([(fun K => entB K "FORMS" "mark" [.str "mark"]), (fun K => entB K "FORMS" "clear" [.str "mark"]), (fun K => entB K "FORMS" "rest" [.str "rest"]), (fun K => entB K "FORMS" "end" []), (fun K => entB K "BOUNDS" "cell" [.int 0, .int 3]), (fun K => entB K "BOUNDS" "first" [.int 0, .int 2]), (fun K => entB K "BOUNDS" "word" [.int 0, .int 999]), (fun K => entB K "BOUNDS" "address" [.int 0, .int 31])] : List (PySem.W.Frag → Bool)) ++ ([(fun K => entB K "BOUNDS" "work" [.int 0, .int 5]), (fun K => entB K "BOUNDS" "mark" [.int 0, .int 2]), (fun K => entB K "BOUNDS" "rest" [.int 1, .int 9]), (fun K => entB K "BOUNDS" "many" [.int 1, .int 16]), (fun K => entB K "BOUNDS" "block" [.int 1, .int 4]), (fun K => entB K "BOUNDS" "ask" [.int 0, .int 200]), (fun K => PySem.BadX.badB K "BadProgram" "at" "row " " of the program can't be" "/claim/cut.py"), (fun K => PySem.BadX.isB K "BadProgram" ["BadMemory", "BadBeats", "BadWindow", "BadClaim", "BadRow", "Crooked", "BadProgram", "BadWorks", "BadAsks", "BadLog", "BadText"])] : List (PySem.W.Frag → Bool)) ++ ([(fun K => PySem.BadX.badB K "BadWorks" "at" "work " " can't be" "/claim/cut.py"), (fun K => PySem.BadX.isB K "BadWorks" ["BadMemory", "BadBeats", "BadWindow", "BadClaim", "BadRow", "Crooked", "BadProgram", "BadWorks", "BadAsks", "BadLog", "BadText"]), (fun K => decide ([(He.cT K ("_law_doors", none)).2, (He.cT K ("_law_windows", none)).2, (He.cT K ("law", none)).2] : List PySem.Addr).Nodup), (fun K => keysB K (He.ga K "FORMS") ["set", "add", "less", "get", "put", "getx", "putx", "pair", "lay", "go", "if", "ask", "done", "mark", "clear", "rest", "end"])] : List (PySem.W.Frag → Bool))
def ex (K : PySem.W.Frag) : Bool := exs.all fun b => b K
theorem exB_ok {K : PySem.W.Frag} (h : ex K = true) (i : Nat) {b : PySem.W.Frag → Bool} (e : exs[i]? = some b) : b K = true := List.all_eq_true.mp h b (List.mem_of_getElem? e)
abbrev R : PySem.W.OpenRow := PySem.W.OpenLaw.row PySem.Challenge.rw_stealbeats_k01_programs_refused
def tf : List He.Defn := [("_law_doors", none), ("_law_windows", none), ("law", none)]
def places : List PySem.Addr := ([2, 3, 6, 4, 24, 37, 49, 61, 73, 85, 97, 118, 139, 160, 181, 202, 205, 223, 234, 235, 236, 243, 250, 257, 264, 271, 278, 285, 292, 297, 304, 311, 318, 325, 332, 339, 346, 353, 360, 367, 374, 381, 388, 395, 402, 409, 416, 433, 489, 553, 564, 569, 626, 659, 694, 703, 748, 759, 766, 771, 778, 785, 790, 795, 802, 809, 814, 821, 828, 833, 840, 847, 854, 861, 868, 875, 882, 889, 894, 899, 906, 913, 920, 927, 934, 941, 946, 953, 960, 967, 972, 979, 984, 991, 996, 1001, 1008, 1015, 1022, 1029, 1036, 0, 23, 36, 48, 60, 72, 84, 96, 117, 138, 159, 180, 201, 206, 207, 208, 209, 210, 211, 212, 213, 214, 215, 216, 217, 218, 219, 220, 221, 222, 224, 225, 226, 227, 228, 229, 230, 231, 232, 233, 242, 249, 256, 263, 270, 277, 284, 291, 296, 303, 310, 317, 324, 331, 338, 345, 352, 359, 366, 373, 380, 387, 394, 401, 408, 415, 432, 488, 552, 563, 568, 625, 658, 693, 702, 747, 758, 765, 770, 777, 784, 789, 794, 801, 808, 813, 820, 827, 832, 839, 846, 853, 860, 867, 874, 881, 888, 893, 898, 905, 912, 919, 926, 933, 940, 945, 952, 959, 966, 971, 978, 983, 990, 995, 1000, 1007, 1014, 1021, 1028, 1035, 22, 25, 35, 47, 59, 71, 83, 95, 115, 116, 136, 137, 157, 158, 178, 179, 199, 200, 237, 238, 239, 240, 241, 244, 245, 246, 247, 248, 251, 252, 253, 254, 255, 258, 259, 260, 261, 262, 265, 266, 267, 268, 269, 272, 273, 274, 275, 276, 279, 280, 281, 282, 283, 286, 287, 288, 289, 290, 293, 294, 295, 298, 299, 300, 301, 302, 305, 306, 307, 308, 309, 312, 313, 314, 315, 316, 319, 320, 321, 322, 323, 326, 327, 328, 329, 330, 333, 334, 335, 336, 337, 340, 341, 342, 343, 344, 347, 348, 349, 350, 351, 354, 355, 356, 357, 358, 361, 362, 363, 364, 365, 368, 369, 370, 371, 372, 375, 376, 377, 378, 379, 382, 383, 384, 385, 386, 389, 390, 391, 392, 393, 396, 397, 398, 399, 400, 403, 404, 405, 406, 407, 410, 411, 412, 413, 414, 430, 431, 434, 435, 451, 458, 465, 472, 479, 486, 487, 490, 491, 505, 512, 519, 526, 533, 540, 545, 550, 551, 554, 555, 558, 559, 560, 561, 562, 565, 566, 567, 583, 590, 597, 604, 611, 616, 623, 624, 627, 628, 644, 649, 656, 657, 660, 661, 677, 684, 691, 692, 695, 696, 699, 700, 701, 717, 724, 731, 738, 745, 746, 749, 750, 753, 754, 755, 756, 757, 760, 761, 762, 763, 764, 767, 768, 769, 772, 773, 774, 775, 776, 779, 780, 781, 782, 783, 786, 787, 788, 791, 792, 793, 796, 797, 798, 799, 800, 803, 804, 805, 806, 807, 810, 811, 812, 815, 816, 817, 818, 819, 822, 823, 824, 825, 826, 829, 830, 831, 834, 835, 836, 837, 838, 841, 842, 843, 844, 845, 848, 849, 850, 851, 852, 855, 856, 857, 858, 859, 862, 863, 864, 865, 866, 869, 870, 871, 872, 873, 876, 877, 878, 879, 880, 883, 884, 885, 886, 887, 890, 891, 892, 895, 896, 897, 900, 901, 902, 903, 904, 907, 908, 909, 910, 911, 914, 915, 916, 917, 918, 921, 922, 923, 924, 925, 928, 929, 930, 931, 932, 935, 936, 937, 938, 939, 942, 943, 944, 947, 948, 949, 950, 951, 954, 955, 956, 957, 958, 961, 962, 963, 964, 965, 968, 969, 970, 973, 974, 975, 976, 977, 980, 981, 982, 985, 986, 987, 988, 989, 992, 993, 994, 997, 998, 999, 1002, 1003, 1004, 1005, 1006, 1009, 1010, 1011, 1012, 1013, 1016, 1017, 1018, 1019, 1020, 1023, 1024, 1025, 1026, 1027, 1030, 1031, 1032, 1033, 1034, 114, 103, 135, 124, 156, 145, 177, 166, 198, 187, 429, 450, 457, 464, 471, 478, 485, 504, 511, 518, 525, 532, 539, 544, 549, 582, 589, 596, 603, 610, 615, 622, 643, 648, 655, 676, 683, 690, 716, 723, 730, 737, 744] : List PySem.Addr)
abbrev hk : PySem.W.Hook := hookL places fa fn ts tf ex
def ob (s : PySem.W.SharedT) : He.AlX := obsL places fa fn ts tf ex (HandSHeadRun.getT s)
theorem ob_eq (s : PySem.W.SharedT) : ob s = hk.obs s.abs := obsL_eq (HandSHeadRun.getT_eq s)
def loose : List Str := (["BeatError", "BadMemory", "BadBeats", "BadWindow", "BadClaim", "BadRow", "Crooked", "BadProgram", "BadWorks", "BadAsks", "BadLog", "BadText"] : List Str) ++ (["FORMS", "BOUNDS", "GREEDS", "DEEDS", "WORDLESS", "FEWEST_WORDS", "MOST_WORDS", "MOST_ROWS", "MOST_WORKS", "MOST_ASKS", "MOST_BEATS", "WIDEST_WINDOW"] : List Str) ++ (["is_number", "is_part", "is_one_of", "is_row", "is_work", "is_ask", "is_window", "is_pair", "is_claim", "is_deed", "is_moved", "is_told"] : List Str) ++ (["check_program", "check_works", "check_memory", "check_asks", "check_hall", "check_beats", "check_window", "check_windowed", "check_claim", "check_pair", "check_mark", "check_address"] : List Str) ++ (["check_log", "check_straight", "Going", "Work", "Device", "CELLS", "MARKS", "WORTHS", "beats_of", "word_of", "Machine", "Floor"] : List Str) ++ (["Hall", "run", "Watch", "check_ahead", "watched", "row_times", "times", "overs", "least_and_most", "spread", "judged", "lays_at"] : List Str) ++ (["laid_ahead", "is_torn", "tears", "is_whole", "tears_within", "torns", "first_torn", "is_over", "is_kept", "holds", "leans", "NOTHING"] : List Str) ++ (["part_text", "row_text", "written", "MOST_RESTS", "is_always_whole", "fewest", "rests", "guards", "deeds", "sights", "worths", "_law_dice"] : List Str) ++ (["_law_off", "_law_word", "_law_are", "_law_row", "_law_program", "_law_is", "_law_is_row", "_law_first_row", "_law_odd", "_law_bent_row", "_law_doors", "_law_windows"] : List Str)
theorem mkT {w : World} {K : PySem.W.Frag} {h : Heap} {mg : Str → Option Value} (X : K.In h) (G : h.Ns mainGlobals mg) (c : He.SaysX fa fn ts tf ex w h K) : T w K mg where
  g_is_number := He.glo_ok X G (c.t.d.fact 0 rfl)
  g_is_part := He.glo_ok X G (c.t.d.fact 1 rfl)
  g_is_one_of := He.glo_ok X G (c.t.d.fact 2 rfl)
  g_is_row := He.glo_ok X G (c.t.d.fact 3 rfl)
  g_is_work := He.glo_ok X G (c.t.d.fact 4 rfl)
  g_is_ask := He.glo_ok X G (c.t.d.fact 5 rfl)
  g_is_window := He.glo_ok X G (c.t.d.fact 6 rfl)
  g_is_pair := He.glo_ok X G (c.t.d.fact 7 rfl)
  g_is_claim := He.glo_ok X G (c.t.d.fact 8 rfl)
  g_is_deed := He.glo_ok X G (c.t.d.fact 9 rfl)
  g_is_moved := He.glo_ok X G (c.t.d.fact 10 rfl)
  g_is_told := He.glo_ok X G (c.t.d.fact 11 rfl)
  g_check_program := He.glo_ok X G (c.t.d.fact 12 rfl)
  g_check_works := He.glo_ok X G (c.t.d.fact 13 rfl)
  g_check_memory := He.glo_ok X G (c.t.d.fact 14 rfl)
  g_check_asks := He.glo_ok X G (c.t.d.fact 15 rfl)
  g_check_hall := He.glo_ok X G (c.t.d.fact 16 rfl)
  g_check_beats := He.glo_ok X G (c.t.d.fact 17 rfl)
  g_check_window := He.glo_ok X G (c.t.d.fact 18 rfl)
  g_check_windowed := He.glo_ok X G (c.t.d.fact 19 rfl)
  g_check_claim := He.glo_ok X G (c.t.d.fact 20 rfl)
  g_check_pair := He.glo_ok X G (c.t.d.fact 21 rfl)
  g_check_mark := He.glo_ok X G (c.t.d.fact 22 rfl)
  g_check_address := He.glo_ok X G (c.t.d.fact 23 rfl)
  g_check_log := He.glo_ok X G (c.t.d.fact 24 rfl)
  g_check_straight := He.glo_ok X G (c.t.d.fact 25 rfl)
  g_beats_of := He.glo_ok X G (c.t.d.fact 26 rfl)
  g_word_of := He.glo_ok X G (c.t.d.fact 27 rfl)
  g_run := He.glo_ok X G (c.t.d.fact 28 rfl)
  g_check_ahead := He.glo_ok X G (c.t.d.fact 29 rfl)
  g_watched := He.glo_ok X G (c.t.d.fact 30 rfl)
  g_row_times := He.glo_ok X G (c.t.d.fact 31 rfl)
  g_times := He.glo_ok X G (c.t.d.fact 32 rfl)
  g_overs := He.glo_ok X G (c.t.d.fact 33 rfl)
  g_least_and_most := He.glo_ok X G (c.t.d.fact 34 rfl)
  g_spread := He.glo_ok X G (c.t.d.fact 35 rfl)
  g_judged := He.glo_ok X G (c.t.d.fact 36 rfl)
  g_lays_at := He.glo_ok X G (c.t.d.fact 37 rfl)
  g_laid_ahead := He.glo_ok X G (c.t.d.fact 38 rfl)
  g_is_torn := He.glo_ok X G (c.t.d.fact 39 rfl)
  g_tears := He.glo_ok X G (c.t.d.fact 40 rfl)
  g_is_whole := He.glo_ok X G (c.t.d.fact 41 rfl)
  g_tears_within := He.glo_ok X G (c.t.d.fact 42 rfl)
  g_torns := He.glo_ok X G (c.t.d.fact 43 rfl)
  g_first_torn := He.glo_ok X G (c.t.d.fact 44 rfl)
  g_is_over := He.glo_ok X G (c.t.d.fact 45 rfl)
  g_is_kept := He.glo_ok X G (c.t.d.fact 46 rfl)
  g_holds := He.glo_ok X G (c.t.d.fact 47 rfl)
  g_leans := He.glo_ok X G (c.t.d.fact 48 rfl)
  g_part_text := He.glo_ok X G (c.t.d.fact 49 rfl)
  g_row_text := He.glo_ok X G (c.t.d.fact 50 rfl)
  g_written := He.glo_ok X G (c.t.d.fact 51 rfl)
  g_is_always_whole := He.glo_ok X G (c.t.d.fact 52 rfl)
  g_fewest := He.glo_ok X G (c.t.d.fact 53 rfl)
  g_rests := He.glo_ok X G (c.t.d.fact 54 rfl)
  g_guards := He.glo_ok X G (c.t.d.fact 55 rfl)
  g_deeds := He.glo_ok X G (c.t.d.fact 56 rfl)
  g_sights := He.glo_ok X G (c.t.d.fact 57 rfl)
  g_worths := He.glo_ok X G (c.t.d.fact 58 rfl)
  g_l_dice := He.glo_ok X G (c.t.d.fact 59 rfl)
  g_l_off := He.glo_ok X G (c.t.d.fact 60 rfl)
  g_l_word := He.glo_ok X G (c.t.d.fact 61 rfl)
  g_l_are := He.glo_ok X G (c.t.d.fact 62 rfl)
  g_l_row := He.glo_ok X G (c.t.d.fact 63 rfl)
  g_l_program := He.glo_ok X G (c.t.d.fact 64 rfl)
  g_l_is := He.glo_ok X G (c.t.d.fact 65 rfl)
  g_l_is_row := He.glo_ok X G (c.t.d.fact 66 rfl)
  g_l_first_row := He.glo_ok X G (c.t.d.fact 67 rfl)
  g_l_odd := He.glo_ok X G (c.t.d.fact 68 rfl)
  g_l_bent_row := He.glo_ok X G (c.t.d.fact 69 rfl)
  g_l_doors := He.glo_ok X G (c.t.d.fact 70 rfl)
  g_l_windows := He.glo_ok X G (c.t.d.fact 71 rfl)
  g_law := He.glo_ok X G (c.t.d.fact 72 rfl)
  g_Going := He.glo_ok X G (c.t.d.fact 73 rfl)
  cl_Going := He.cls_ok (c.t.d.fact 74 rfl)
  mk_Going := He.mkr_ok (c.t.d.fact 75 rfl)
  n_Going_number := He.noat_ok (c.t.d.fact 76 rfl)
  n_Going_hand := He.noat_ok (c.t.d.fact 77 rfl)
  n_Going_puts := He.noat_ok (c.t.d.fact 78 rfl)
  g_Work := He.glo_ok X G (c.t.d.fact 79 rfl)
  cl_Work := He.cls_ok (c.t.d.fact 80 rfl)
  mk_Work := He.mkr_ok (c.t.d.fact 81 rfl)
  n_Work_begin := He.noat_ok (c.t.d.fact 82 rfl)
  n_Work_goal := He.noat_ok (c.t.d.fact 83 rfl)
  n_Work_many := He.noat_ok (c.t.d.fact 84 rfl)
  n_Work_block := He.noat_ok (c.t.d.fact 85 rfl)
  n_Work_greed := He.noat_ok (c.t.d.fact 86 rfl)
  n_Work_mark := He.noat_ok (c.t.d.fact 87 rfl)
  n_Work_follow := He.noat_ok (c.t.d.fact 88 rfl)
  n_Work_going := He.noat_ok (c.t.d.fact 89 rfl)
  m_Work_held_off := He.meth_ok (c.t.d.fact 90 rfl)
  m_Work_may_take := He.meth_ok (c.t.d.fact 91 rfl)
  m_Work_move := He.meth_ok (c.t.d.fact 92 rfl)
  m_Work_fetch := He.meth_ok (c.t.d.fact 93 rfl)
  m_Work_lay := He.meth_ok (c.t.d.fact 94 rfl)
  g_Device := He.glo_ok X G (c.t.d.fact 95 rfl)
  cl_Device := He.cls_ok (c.t.d.fact 96 rfl)
  mk_Device := He.mkr_ok (c.t.d.fact 97 rfl)
  n_Device_works := He.noat_ok (c.t.d.fact 98 rfl)
  n_Device_took := He.noat_ok (c.t.d.fact 99 rfl)
  n_Device_begun := He.noat_ok (c.t.d.fact 100 rfl)
  m_Device_is_on := He.meth_ok (c.t.d.fact 101 rfl)
  m_Device_wake := He.meth_ok (c.t.d.fact 102 rfl)
  m_Device_start := He.meth_ok (c.t.d.fact 103 rfl)
  m_Device_move := He.meth_ok (c.t.d.fact 104 rfl)
  m_Device_taker := He.meth_ok (c.t.d.fact 105 rfl)
  m_Device_numbers_on := He.meth_ok (c.t.d.fact 106 rfl)
  m_Device_shown_on := He.meth_ok (c.t.d.fact 107 rfl)
  g_Machine := He.glo_ok X G (c.t.d.fact 108 rfl)
  cl_Machine := He.cls_ok (c.t.d.fact 109 rfl)
  mk_Machine := He.mkr_ok (c.t.d.fact 110 rfl)
  n_Machine_program := He.noat_ok (c.t.d.fact 111 rfl)
  n_Machine_cells := He.noat_ok (c.t.d.fact 112 rfl)
  n_Machine_marks := He.noat_ok (c.t.d.fact 113 rfl)
  n_Machine_row := He.noat_ok (c.t.d.fact 114 rfl)
  n_Machine_spent := He.noat_ok (c.t.d.fact 115 rfl)
  m_Machine_ended := He.meth_ok (c.t.d.fact 116 rfl)
  m_Machine_wanted := He.meth_ok (c.t.d.fact 117 rfl)
  m_Machine_step := He.meth_ok (c.t.d.fact 118 rfl)
  m_Machine_use_word := He.meth_ok (c.t.d.fact 119 rfl)
  m_Machine_finish := He.meth_ok (c.t.d.fact 120 rfl)
  m_Machine_reckoned := He.meth_ok (c.t.d.fact 121 rfl)
  g_Floor := He.glo_ok X G (c.t.d.fact 122 rfl)
  cl_Floor := He.cls_ok (c.t.d.fact 123 rfl)
  mk_Floor := He.mkr_ok (c.t.d.fact 124 rfl)
  n_Floor_machine := He.noat_ok (c.t.d.fact 125 rfl)
  n_Floor_device := He.noat_ok (c.t.d.fact 126 rfl)
  n_Floor_words := He.noat_ok (c.t.d.fact 127 rfl)
  n_Floor_asks := He.noat_ok (c.t.d.fact 128 rfl)
  n_Floor_beats := He.noat_ok (c.t.d.fact 129 rfl)
  m_Floor_pass_beat := He.meth_ok (c.t.d.fact 130 rfl)
  m_Floor_seen := He.meth_ok (c.t.d.fact 131 rfl)
  g_Hall := He.glo_ok X G (c.t.d.fact 132 rfl)
  cl_Hall := He.cls_ok (c.t.d.fact 133 rfl)
  mk_Hall := He.mkr_ok (c.t.d.fact 134 rfl)
  n_Hall_floor := He.noat_ok (c.t.d.fact 135 rfl)
  m_Hall_beat := He.meth_ok (c.t.d.fact 136 rfl)
  m_Hall_shown := He.meth_ok (c.t.d.fact 137 rfl)
  g_Watch := He.glo_ok X G (c.t.d.fact 138 rfl)
  cl_Watch := He.cls_ok (c.t.d.fact 139 rfl)
  mk_Watch := He.mkr_ok (c.t.d.fact 140 rfl)
  n_Watch_floor := He.noat_ok (c.t.d.fact 141 rfl)
  n_Watch_dones := He.noat_ok (c.t.d.fact 142 rfl)
  n_Watch_on_behind := He.noat_ok (c.t.d.fact 143 rfl)
  n_Watch_pairs := He.noat_ok (c.t.d.fact 144 rfl)
  n_Watch_first_get := He.noat_ok (c.t.d.fact 145 rfl)
  n_Watch_goings := He.noat_ok (c.t.d.fact 146 rfl)
  m_Watch_run := He.meth_ok (c.t.d.fact 147 rfl)
  m_Watch_run_till := He.meth_ok (c.t.d.fact 148 rfl)
  m_Watch_step := He.meth_ok (c.t.d.fact 149 rfl)
  m_Watch_note_get := He.meth_ok (c.t.d.fact 150 rfl)
  g_BeatError := He.glo_ok X G (c.t.d.fact 151 rfl)
  g_BadMemory := He.glo_ok X G (c.t.d.fact 152 rfl)
  g_BadBeats := He.glo_ok X G (c.t.d.fact 153 rfl)
  g_BadWindow := He.glo_ok X G (c.t.d.fact 154 rfl)
  g_BadClaim := He.glo_ok X G (c.t.d.fact 155 rfl)
  g_BadRow := He.glo_ok X G (c.t.d.fact 156 rfl)
  g_Crooked := He.glo_ok X G (c.t.d.fact 157 rfl)
  g_BadProgram := He.glo_ok X G (c.t.d.fact 158 rfl)
  g_BadWorks := He.glo_ok X G (c.t.d.fact 159 rfl)
  g_BadAsks := He.glo_ok X G (c.t.d.fact 160 rfl)
  g_BadLog := He.glo_ok X G (c.t.d.fact 161 rfl)
  g_BadText := He.glo_ok X G (c.t.d.fact 162 rfl)
  u_abs := He.free_ok X G (c.t.d.fact 163 rfl)
  u_bool := He.free_ok X G (c.t.d.fact 164 rfl)
  u_enumerate := He.free_ok X G (c.t.d.fact 165 rfl)
  u_int := He.free_ok X G (c.t.d.fact 166 rfl)
  u_isinstance := He.free_ok X G (c.t.d.fact 167 rfl)
  u_len := He.free_ok X G (c.t.d.fact 168 rfl)
  u_list := He.free_ok X G (c.t.d.fact 169 rfl)
  u_max := He.free_ok X G (c.t.d.fact 170 rfl)
  u_min := He.free_ok X G (c.t.d.fact 171 rfl)
  u_range := He.free_ok X G (c.t.d.fact 172 rfl)
  u_str := He.free_ok X G (c.t.d.fact 173 rfl)
  u_tuple := He.free_ok X G (c.t.d.fact 174 rfl)
  u_zip := He.free_ok X G (c.t.d.fact 175 rfl)
  u_ValueError := He.free_ok X G (c.t.d.fact 176 rfl)
  u_super := He.free_ok X G (c.t.d.fact 177 rfl)
  i_NOTHING := He.str_ok X G (c.t.d.fact 178 rfl)
  i_FEWEST_WORDS := He.int_ok X G (c.t.d.fact 179 rfl)
  i_MOST_WORDS := He.int_ok X G (c.t.d.fact 180 rfl)
  i_MOST_ROWS := He.int_ok X G (c.t.d.fact 181 rfl)
  i_MOST_WORKS := He.int_ok X G (c.t.d.fact 182 rfl)
  i_MOST_ASKS := He.int_ok X G (c.t.d.fact 183 rfl)
  i_MOST_BEATS := He.int_ok X G (c.t.d.fact 184 rfl)
  i_WIDEST_WINDOW := He.int_ok X G (c.t.d.fact 185 rfl)
  i_CELLS := He.int_ok X G (c.t.d.fact 186 rfl)
  i_MARKS := He.int_ok X G (c.t.d.fact 187 rfl)
  i_WORTHS := He.int_ok X G (c.t.d.fact 188 rfl)
  i_MOST_RESTS := He.int_ok X G (c.t.d.fact 189 rfl)
  g_GREEDS := He.glo_ok X G (c.t.d.fact 190 rfl)
  g_DEEDS := He.glo_ok X G (c.t.d.fact 191 rfl)
  g_WORDLESS := He.glo_ok X G (c.t.d.fact 192 rfl)
  g_FORMS := He.glo_ok X G (c.t.d.fact 193 rfl)
  g_BOUNDS := He.glo_ok X G (c.t.d.fact 194 rfl)
  f_is_number := c.t.d.def_ 0 (d := d_is_number) rfl
  f_is_part := c.t.d.def_ 1 (d := d_is_part) rfl
  f_is_one_of := c.t.d.def_ 2 (d := d_is_one_of) rfl
  f_is_row := c.t.d.def_ 3 (d := d_is_row) rfl
  f_is_work := c.t.d.def_ 4 (d := d_is_work) rfl
  f_is_ask := c.t.d.def_ 5 (d := d_is_ask) rfl
  f_is_window := c.t.d.def_ 6 (d := d_is_window) rfl
  f_is_pair := c.t.d.def_ 7 (d := d_is_pair) rfl
  f_is_claim := c.t.d.def_ 8 (d := d_is_claim) rfl
  f_is_deed := c.t.d.def_ 9 (d := d_is_deed) rfl
  f_is_moved := c.t.d.def_ 10 (d := d_is_moved) rfl
  f_is_told := c.t.d.def_ 11 (d := d_is_told) rfl
  f_check_program := c.t.d.def_ 12 (d := d_check_program) rfl
  f_check_works := c.t.d.def_ 13 (d := d_check_works) rfl
  f_check_memory := c.t.d.def_ 14 (d := d_check_memory) rfl
  f_check_asks := c.t.d.def_ 15 (d := d_check_asks) rfl
  f_check_hall := c.t.d.def_ 16 (d := d_check_hall) rfl
  f_check_beats := c.t.d.def_ 17 (d := d_check_beats) rfl
  f_check_window := c.t.d.def_ 18 (d := d_check_window) rfl
  f_check_windowed := c.t.d.def_ 19 (d := d_check_windowed) rfl
  f_check_claim := c.t.d.def_ 20 (d := d_check_claim) rfl
  f_check_pair := c.t.d.def_ 21 (d := d_check_pair) rfl
  f_check_mark := c.t.d.def_ 22 (d := d_check_mark) rfl
  f_check_address := c.t.d.def_ 23 (d := d_check_address) rfl
  f_check_log := c.t.d.def_ 24 (d := d_check_log) rfl
  f_check_straight := c.t.d.def_ 25 (d := d_check_straight) rfl
  f_Going_init := c.t.d.def_ 26 (d := d_Going_init) rfl
  f_Work_init := c.t.d.def_ 27 (d := d_Work_init) rfl
  f_Work_held_off := c.t.d.def_ 28 (d := d_Work_held_off) rfl
  f_Work_may_take := c.t.d.def_ 29 (d := d_Work_may_take) rfl
  f_Work_move := c.t.d.def_ 30 (d := d_Work_move) rfl
  f_Work_fetch := c.t.d.def_ 31 (d := d_Work_fetch) rfl
  f_Work_lay := c.t.d.def_ 32 (d := d_Work_lay) rfl
  f_Device_init := c.t.d.def_ 33 (d := d_Device_init) rfl
  f_Device_is_on := c.t.d.def_ 34 (d := d_Device_is_on) rfl
  f_Device_wake := c.t.d.def_ 35 (d := d_Device_wake) rfl
  f_Device_start := c.t.d.def_ 36 (d := d_Device_start) rfl
  f_Device_move := c.t.d.def_ 37 (d := d_Device_move) rfl
  f_Device_taker := c.t.d.def_ 38 (d := d_Device_taker) rfl
  f_Device_numbers_on := c.t.d.def_ 39 (d := d_Device_numbers_on) rfl
  f_Device_shown_on := c.t.d.def_ 40 (d := d_Device_shown_on) rfl
  f_beats_of := c.t.d.def_ 41 (d := d_beats_of) rfl
  f_word_of := c.t.d.def_ 42 (d := d_word_of) rfl
  f_Machine_init := c.t.d.def_ 43 (d := d_Machine_init) rfl
  f_Machine_ended := c.t.d.def_ 44 (d := d_Machine_ended) rfl
  f_Machine_wanted := c.t.d.def_ 45 (d := d_Machine_wanted) rfl
  f_Machine_step := c.t.d.def_ 46 (d := d_Machine_step) rfl
  f_Machine_use_word := c.t.d.def_ 47 (d := d_Machine_use_word) rfl
  f_Machine_finish := c.t.d.def_ 48 (d := d_Machine_finish) rfl
  f_Machine_reckoned := c.t.d.def_ 49 (d := d_Machine_reckoned) rfl
  f_Floor_init := c.t.d.def_ 50 (d := d_Floor_init) rfl
  f_Floor_pass_beat := c.t.d.def_ 51 (d := d_Floor_pass_beat) rfl
  f_Floor_seen := c.t.d.def_ 52 (d := d_Floor_seen) rfl
  f_Hall_init := c.t.d.def_ 53 (d := d_Hall_init) rfl
  f_Hall_beat := c.t.d.def_ 54 (d := d_Hall_beat) rfl
  f_Hall_shown := c.t.d.def_ 55 (d := d_Hall_shown) rfl
  f_run := c.t.d.def_ 56 (d := d_run) rfl
  f_Watch_init := c.t.d.def_ 57 (d := d_Watch_init) rfl
  f_Watch_run := c.t.d.def_ 58 (d := d_Watch_run) rfl
  f_Watch_run_till := c.t.d.def_ 59 (d := d_Watch_run_till) rfl
  f_Watch_step := c.t.d.def_ 60 (d := d_Watch_step) rfl
  f_Watch_note_get := c.t.d.def_ 61 (d := d_Watch_note_get) rfl
  f_check_ahead := c.t.d.def_ 62 (d := d_check_ahead) rfl
  f_watched := c.t.d.def_ 63 (d := d_watched) rfl
  f_row_times := c.t.d.def_ 64 (d := d_row_times) rfl
  f_times := c.t.d.def_ 65 (d := d_times) rfl
  f_overs := c.t.d.def_ 66 (d := d_overs) rfl
  f_least_and_most := c.t.d.def_ 67 (d := d_least_and_most) rfl
  f_spread := c.t.d.def_ 68 (d := d_spread) rfl
  f_judged := c.t.d.def_ 69 (d := d_judged) rfl
  f_lays_at := c.t.d.def_ 70 (d := d_lays_at) rfl
  f_laid_ahead := c.t.d.def_ 71 (d := d_laid_ahead) rfl
  f_is_torn := c.t.d.def_ 72 (d := d_is_torn) rfl
  f_tears := c.t.d.def_ 73 (d := d_tears) rfl
  f_is_whole := c.t.d.def_ 74 (d := d_is_whole) rfl
  f_tears_within := c.t.d.def_ 75 (d := d_tears_within) rfl
  f_torns := c.t.d.def_ 76 (d := d_torns) rfl
  f_first_torn := c.t.d.def_ 77 (d := d_first_torn) rfl
  f_is_over := c.t.d.def_ 78 (d := d_is_over) rfl
  f_is_kept := c.t.d.def_ 79 (d := d_is_kept) rfl
  f_holds := c.t.d.def_ 80 (d := d_holds) rfl
  f_leans := c.t.d.def_ 81 (d := d_leans) rfl
  f_part_text := c.t.d.def_ 82 (d := d_part_text) rfl
  f_row_text := c.t.d.def_ 83 (d := d_row_text) rfl
  f_written := c.t.d.def_ 84 (d := d_written) rfl
  f_is_always_whole := c.t.d.def_ 85 (d := d_is_always_whole) rfl
  f_fewest := c.t.d.def_ 86 (d := d_fewest) rfl
  f_rests := c.t.d.def_ 87 (d := d_rests) rfl
  f_guards := c.t.d.def_ 88 (d := d_guards) rfl
  f_deeds := c.t.d.def_ 89 (d := d_deeds) rfl
  f_sights := c.t.d.def_ 90 (d := d_sights) rfl
  f_worths := c.t.d.def_ 91 (d := d_worths) rfl
  f_l_dice := c.t.d.def_ 92 (d := d_l_dice) rfl
  f_l_off := c.t.d.def_ 93 (d := d_l_off) rfl
  f_l_word := c.t.d.def_ 94 (d := d_l_word) rfl
  f_l_are := c.t.d.def_ 95 (d := d_l_are) rfl
  f_l_row := c.t.d.def_ 96 (d := d_l_row) rfl
  f_l_program := c.t.d.def_ 97 (d := d_l_program) rfl
  f_l_is := c.t.d.def_ 98 (d := d_l_is) rfl
  f_l_is_row := c.t.d.def_ 99 (d := d_l_is_row) rfl
  f_l_first_row := c.t.d.def_ 100 (d := d_l_first_row) rfl
  f_l_odd := c.t.d.def_ 101 (d := d_l_odd) rfl
  f_l_bent_row := c.t.d.def_ 102 (d := d_l_bent_row) rfl
  f_l_doors := c.t.d.def_ 103 (d := d_l_doors) rfl
  f_l_windows := c.t.d.def_ 104 (d := d_l_windows) rfl
  f_law := c.t.d.def_ 105 (d := d_law) rfl
  d_FORMS := c.t.tab 0 (t := tab_FORMS) rfl
  d_BOUNDS := c.t.tab 1 (t := tab_BOUNDS) rfl
  tt_GREEDS := fun H => He.tupB_ok (exB_ok c.more 0 rfl) H
  tt_DEEDS := fun H => He.tupB_ok (exB_ok c.more 1 rfl) H
  tt_WORDLESS := fun H => He.tupB_ok (exB_ok c.more 2 rfl) H
  e_FORMS_set := entB_ok (exB_ok c.more 3 rfl)
  e_FORMS_add := entB_ok (exB_ok c.more 4 rfl)
  e_FORMS_less := entB_ok (exB_ok c.more 5 rfl)
  e_FORMS_get := entB_ok (exB_ok c.more 6 rfl)
  e_FORMS_put := entB_ok (exB_ok c.more 7 rfl)
  e_FORMS_getx := entB_ok (exB_ok c.more 8 rfl)
  e_FORMS_putx := entB_ok (exB_ok c.more 9 rfl)
  e_FORMS_pair := entB_ok (exB_ok c.more 10 rfl)
  e_FORMS_lay := entB_ok (exB_ok c.more 11 rfl)
  e_FORMS_go := entB_ok (exB_ok c.more 12 rfl)
  e_FORMS_if := entB_ok (exB_ok c.more 13 rfl)
  e_FORMS_ask := entB_ok (exB_ok c.more 14 rfl)
  e_FORMS_done := entB_ok (exB_ok c.more 15 rfl)
  e_FORMS_mark := entB_ok (exB_ok c.more 16 rfl)
  e_FORMS_clear := entB_ok (exB_ok c.more 17 rfl)
  e_FORMS_rest := entB_ok (exB_ok c.more 18 rfl)
  e_FORMS_end := entB_ok (exB_ok c.more 19 rfl)
  e_BOUNDS_cell := entB_ok (exB_ok c.more 20 rfl)
  e_BOUNDS_first := entB_ok (exB_ok c.more 21 rfl)
  e_BOUNDS_word := entB_ok (exB_ok c.more 22 rfl)
  e_BOUNDS_address := entB_ok (exB_ok c.more 23 rfl)
  e_BOUNDS_work := entB_ok (exB_ok c.more 24 rfl)
  e_BOUNDS_mark := entB_ok (exB_ok c.more 25 rfl)
  e_BOUNDS_rest := entB_ok (exB_ok c.more 26 rfl)
  e_BOUNDS_many := entB_ok (exB_ok c.more 27 rfl)
  e_BOUNDS_block := entB_ok (exB_ok c.more 28 rfl)
  e_BOUNDS_ask := entB_ok (exB_ok c.more 29 rfl)
  x_bad_BadProgram := (exB_ok c.more 30 rfl)
  x_is_BadProgram := PySem.BadX.isB_ok (exB_ok c.more 31 rfl)
  x_bad_BadWorks := (exB_ok c.more 32 rfl)
  x_is_BadWorks := PySem.BadX.isB_ok (exB_ok c.more 33 rfl)
  x_tabs := of_decide_eq_true (exB_ok c.more 34 rfl)
  x_keys_FORMS := keysB_ok (exB_ok c.more 35 rfl)
  k_is_number := (let ⟨_, F⟩ := c.t.d.def_ 0 (d := d_is_number) rfl; F.kp)
  k_is_part := (let ⟨_, F⟩ := c.t.d.def_ 1 (d := d_is_part) rfl; F.kp)
  k_is_one_of := (let ⟨_, F⟩ := c.t.d.def_ 2 (d := d_is_one_of) rfl; F.kp)
  k_is_row := (let ⟨_, F⟩ := c.t.d.def_ 3 (d := d_is_row) rfl; F.kp)
  k_is_work := (let ⟨_, F⟩ := c.t.d.def_ 4 (d := d_is_work) rfl; F.kp)
  k_is_ask := (let ⟨_, F⟩ := c.t.d.def_ 5 (d := d_is_ask) rfl; F.kp)
  k_is_window := (let ⟨_, F⟩ := c.t.d.def_ 6 (d := d_is_window) rfl; F.kp)
  k_is_pair := (let ⟨_, F⟩ := c.t.d.def_ 7 (d := d_is_pair) rfl; F.kp)
  k_is_claim := (let ⟨_, F⟩ := c.t.d.def_ 8 (d := d_is_claim) rfl; F.kp)
  k_is_deed := (let ⟨_, F⟩ := c.t.d.def_ 9 (d := d_is_deed) rfl; F.kp)
  k_is_moved := (let ⟨_, F⟩ := c.t.d.def_ 10 (d := d_is_moved) rfl; F.kp)
  k_is_told := (let ⟨_, F⟩ := c.t.d.def_ 11 (d := d_is_told) rfl; F.kp)
  k_check_program := (let ⟨_, F⟩ := c.t.d.def_ 12 (d := d_check_program) rfl; F.kp)
  k_check_works := (let ⟨_, F⟩ := c.t.d.def_ 13 (d := d_check_works) rfl; F.kp)
  k_check_memory := (let ⟨_, F⟩ := c.t.d.def_ 14 (d := d_check_memory) rfl; F.kp)
  k_check_asks := (let ⟨_, F⟩ := c.t.d.def_ 15 (d := d_check_asks) rfl; F.kp)
  k_check_hall := (let ⟨_, F⟩ := c.t.d.def_ 16 (d := d_check_hall) rfl; F.kp)
  k_check_beats := (let ⟨_, F⟩ := c.t.d.def_ 17 (d := d_check_beats) rfl; F.kp)
  k_check_window := (let ⟨_, F⟩ := c.t.d.def_ 18 (d := d_check_window) rfl; F.kp)
  k_check_windowed := (let ⟨_, F⟩ := c.t.d.def_ 19 (d := d_check_windowed) rfl; F.kp)
  k_check_claim := (let ⟨_, F⟩ := c.t.d.def_ 20 (d := d_check_claim) rfl; F.kp)
  k_check_pair := (let ⟨_, F⟩ := c.t.d.def_ 21 (d := d_check_pair) rfl; F.kp)
  k_check_mark := (let ⟨_, F⟩ := c.t.d.def_ 22 (d := d_check_mark) rfl; F.kp)
  k_check_address := (let ⟨_, F⟩ := c.t.d.def_ 23 (d := d_check_address) rfl; F.kp)
  k_check_log := (let ⟨_, F⟩ := c.t.d.def_ 24 (d := d_check_log) rfl; F.kp)
  k_check_straight := (let ⟨_, F⟩ := c.t.d.def_ 25 (d := d_check_straight) rfl; F.kp)
  k_beats_of := (let ⟨_, F⟩ := c.t.d.def_ 41 (d := d_beats_of) rfl; F.kp)
  k_word_of := (let ⟨_, F⟩ := c.t.d.def_ 42 (d := d_word_of) rfl; F.kp)
  k_run := (let ⟨_, F⟩ := c.t.d.def_ 56 (d := d_run) rfl; F.kp)
  k_check_ahead := (let ⟨_, F⟩ := c.t.d.def_ 62 (d := d_check_ahead) rfl; F.kp)
  k_watched := (let ⟨_, F⟩ := c.t.d.def_ 63 (d := d_watched) rfl; F.kp)
  k_row_times := (let ⟨_, F⟩ := c.t.d.def_ 64 (d := d_row_times) rfl; F.kp)
  k_times := (let ⟨_, F⟩ := c.t.d.def_ 65 (d := d_times) rfl; F.kp)
  k_overs := (let ⟨_, F⟩ := c.t.d.def_ 66 (d := d_overs) rfl; F.kp)
  k_least_and_most := (let ⟨_, F⟩ := c.t.d.def_ 67 (d := d_least_and_most) rfl; F.kp)
  k_spread := (let ⟨_, F⟩ := c.t.d.def_ 68 (d := d_spread) rfl; F.kp)
  k_judged := (let ⟨_, F⟩ := c.t.d.def_ 69 (d := d_judged) rfl; F.kp)
  k_lays_at := (let ⟨_, F⟩ := c.t.d.def_ 70 (d := d_lays_at) rfl; F.kp)
  k_laid_ahead := (let ⟨_, F⟩ := c.t.d.def_ 71 (d := d_laid_ahead) rfl; F.kp)
  k_is_torn := (let ⟨_, F⟩ := c.t.d.def_ 72 (d := d_is_torn) rfl; F.kp)
  k_tears := (let ⟨_, F⟩ := c.t.d.def_ 73 (d := d_tears) rfl; F.kp)
  k_is_whole := (let ⟨_, F⟩ := c.t.d.def_ 74 (d := d_is_whole) rfl; F.kp)
  k_tears_within := (let ⟨_, F⟩ := c.t.d.def_ 75 (d := d_tears_within) rfl; F.kp)
  k_torns := (let ⟨_, F⟩ := c.t.d.def_ 76 (d := d_torns) rfl; F.kp)
  k_first_torn := (let ⟨_, F⟩ := c.t.d.def_ 77 (d := d_first_torn) rfl; F.kp)
  k_is_over := (let ⟨_, F⟩ := c.t.d.def_ 78 (d := d_is_over) rfl; F.kp)
  k_is_kept := (let ⟨_, F⟩ := c.t.d.def_ 79 (d := d_is_kept) rfl; F.kp)
  k_holds := (let ⟨_, F⟩ := c.t.d.def_ 80 (d := d_holds) rfl; F.kp)
  k_leans := (let ⟨_, F⟩ := c.t.d.def_ 81 (d := d_leans) rfl; F.kp)
  k_part_text := (let ⟨_, F⟩ := c.t.d.def_ 82 (d := d_part_text) rfl; F.kp)
  k_row_text := (let ⟨_, F⟩ := c.t.d.def_ 83 (d := d_row_text) rfl; F.kp)
  k_written := (let ⟨_, F⟩ := c.t.d.def_ 84 (d := d_written) rfl; F.kp)
  k_is_always_whole := (let ⟨_, F⟩ := c.t.d.def_ 85 (d := d_is_always_whole) rfl; F.kp)
  k_fewest := (let ⟨_, F⟩ := c.t.d.def_ 86 (d := d_fewest) rfl; F.kp)
  k_rests := (let ⟨_, F⟩ := c.t.d.def_ 87 (d := d_rests) rfl; F.kp)
  k_guards := (let ⟨_, F⟩ := c.t.d.def_ 88 (d := d_guards) rfl; F.kp)
  k_deeds := (let ⟨_, F⟩ := c.t.d.def_ 89 (d := d_deeds) rfl; F.kp)
  k_sights := (let ⟨_, F⟩ := c.t.d.def_ 90 (d := d_sights) rfl; F.kp)
  k_worths := (let ⟨_, F⟩ := c.t.d.def_ 91 (d := d_worths) rfl; F.kp)
  k_l_dice := (let ⟨_, F⟩ := c.t.d.def_ 92 (d := d_l_dice) rfl; F.kp)
  k_l_off := (let ⟨_, F⟩ := c.t.d.def_ 93 (d := d_l_off) rfl; F.kp)
  k_l_word := (let ⟨_, F⟩ := c.t.d.def_ 94 (d := d_l_word) rfl; F.kp)
  k_l_are := (let ⟨_, F⟩ := c.t.d.def_ 95 (d := d_l_are) rfl; F.kp)
  k_l_row := (let ⟨_, F⟩ := c.t.d.def_ 96 (d := d_l_row) rfl; F.kp)
  k_l_program := (let ⟨_, F⟩ := c.t.d.def_ 97 (d := d_l_program) rfl; F.kp)
  k_l_is := (let ⟨_, F⟩ := c.t.d.def_ 98 (d := d_l_is) rfl; F.kp)
  k_l_is_row := (let ⟨_, F⟩ := c.t.d.def_ 99 (d := d_l_is_row) rfl; F.kp)
  k_l_first_row := (let ⟨_, F⟩ := c.t.d.def_ 100 (d := d_l_first_row) rfl; F.kp)
  k_l_odd := (let ⟨_, F⟩ := c.t.d.def_ 101 (d := d_l_odd) rfl; F.kp)
  k_l_bent_row := (let ⟨_, F⟩ := c.t.d.def_ 102 (d := d_l_bent_row) rfl; F.kp)
  k_l_doors := (let ⟨_, F⟩ := c.t.d.def_ 103 (d := d_l_doors) rfl; F.kp)
  k_l_windows := (let ⟨_, F⟩ := c.t.d.def_ 104 (d := d_l_windows) rfl; F.kp)
  k_law := (let ⟨_, F⟩ := c.t.d.def_ 105 (d := d_law) rfl; F.kp)
def RunA {c : Type} (r : PySem.W.OpenRow) (q : PySem.Program) (h : PySem.W.Hook) (ob : PySem.W.SharedT → h.α) (m : Nat) (lo : List PySem.Str) (w : World) (p : h.α → c) : Prop := ∀ os : OsState, (HandSHeadRun.endF (HandSHeadRun.stepQ (HandSHeadRun.denQ HandSHeadRun.tabQ) r.prog w) m r.prog w os).map (fun s => (HandSHeadRun.looksF r.prog (PySem.W.boot_heap w.params) s.abs, HandSHeadRun.seenQ q lo (importedModules r.prog.main.body) (fun s => PySem.W.xlAt q [] s && PySem.W.recOk r.toRowW.records s) s.abs, p (ob s))) = some (true, PySem.W.openGood q lo, p (h.val w))
def RunB {c : Type} (r : PySem.W.OpenRow) (h : PySem.W.Hook) (ob : PySem.W.SharedT → h.α) (m : Nat) (w : World) (p : h.α → c) : Prop := ∀ os : OsState, (HandSHeadRun.endF (HandSHeadRun.stepQ (HandSHeadRun.denQ HandSHeadRun.tabQ) r.prog w) m r.prog w os).map (fun s => p (ob s)) = some (p (h.val w))
theorem run_of {r : PySem.W.OpenRow} {q : PySem.Program} {h : PySem.W.Hook} {ob : PySem.W.SharedT → h.α} {m : Nat} {lo : List PySem.Str} {w : World} {c d : Type} (p1 : h.α → c) (p2 : h.α → d) (inj : ∀ u v : h.α, p1 u = p1 v → p2 u = p2 v → u = v) (h1 : RunA r q h ob m lo w p1) (h3 : RunB r h ob m w p2) : HandSHeadRun.RunEq r q h ob m lo w := by
  intro os
  have h1 := h1 os
  have h3 := h3 os
  generalize (HandSHeadRun.endF (HandSHeadRun.stepQ (HandSHeadRun.denQ HandSHeadRun.tabQ) r.prog w) m r.prog w os) = x at h1 h3 ⊢
  cases x with
  | none => cases h1
  | some s =>
    have e1 := Option.some.inj h1
    have e3 := Option.some.inj h3
    have e4 := congrArg Prod.fst e1
    have e5 := congrArg (fun z => z.2.1) e1
    have e2 := congrArg (fun z => z.2.2) e1
    have e6 := inj _ _ e2 e3
    show some (_, _, ob s) = some (true, PySem.W.openGood q lo, h.val w)
    rw [← e6]
    exact congrArg some (Prod.ext e4 (Prod.ext e5 rfl))
theorem both_eq (u v : He.AlX) (h1 : u.2 = v.2) (h2 : u.1 = v.1) : u = v := Prod.ext h2 h1
theorem run_false_a (w : World) : RunA R (PySem.W.view R.prog [124]) hk ob 9000 loose (w.withFollow "special-get-raises" false) (fun u : He.AlX => u.2) := by
  intro os
  kernel_rfl
theorem run_false_b (w : World) : RunB R hk ob 9000 (w.withFollow "special-get-raises" false) (fun u : He.AlX => u.1) := by
  intro os
  kernel_rfl
theorem run_false (w : World) : HandSHeadRun.RunEq R (PySem.W.view R.prog [124]) hk ob 9000 loose (w.withFollow "special-get-raises" false) := run_of (fun u : He.AlX => u.2) (fun u : He.AlX => u.1) both_eq (run_false_a w) (run_false_b w)
theorem run_true_a (w : World) : RunA R (PySem.W.view R.prog [124]) hk ob 9000 loose (w.withFollow "special-get-raises" true) (fun u : He.AlX => u.2) := by
  intro os
  kernel_rfl
theorem run_true_b (w : World) : RunB R hk ob 9000 (w.withFollow "special-get-raises" true) (fun u : He.AlX => u.1) := by
  intro os
  kernel_rfl
theorem run_true (w : World) : HandSHeadRun.RunEq R (PySem.W.view R.prog [124]) hk ob 9000 loose (w.withFollow "special-get-raises" true) := run_of (fun u : He.AlX => u.2) (fun u : He.AlX => u.1) both_eq (run_true_a w) (run_true_b w)
theorem run (w : World) : HandSHeadRun.RunEq R (PySem.W.view R.prog [124]) hk ob 9000 loose w := PySem.W.byRow2 "special-get-raises" (P := fun w => HandSHeadRun.RunEq R (PySem.W.view R.prog [124]) hk ob 9000 loose w) run_false run_true w
end SB

set_option Elab.async false
set_option linter.all false
set_option maxRecDepth 100000
set_option maxHeartbeats 2000000
namespace L2
open PySem PySem.Spec PyProof.Rows
theorem relO_bad {v : V} {v' : Value} (r : RelV v v') (f : Str) : RelO (List.lookup f [(("at" : Str), v)]) (if f = "at" then some v' else none) := by
  by_cases hw : f = "at"
  · subst hw
    rw [if_pos rfl]
    have q : List.lookup ("at" : Str) [(("at" : Str), v)] = some v := by simp [List.lookup]
    rw [q]
    exact r
  · rw [if_neg hw]
    have qw : (f == ("at" : Str)) = false := by simpa using hw
    have q2 : List.lookup f [(("at" : Str), v)] = none := by simp [List.lookup, qw]
    rw [q2]
    trivial
section
variable {X : Cx} {nm s1 s2 : Str} {C fI B : Addr}
def ShortIn (s1 s2 : Str) (n : Int) : Prop := n.natAbs.log2 < 1920 ∧ (s1 ++ Str.ofString (toString n) ++ s2).length ≤ sizeLine
def tMkBad (C : Addr) (s1 s2 : Str) (ta : TA) : St → Hp → XK → Prop := fun σ H Q => ta σ H fun vs H1 => ∃ n, vs = [.int n] ∧ ShortIn s1 s2 n ∧ ∀ d, H1 d = none → Q (.ref C) (some d) (upd H1 d (.xd [(("at" : Str), .int n)]))
theorem pmk_bad {a : Expr} {ta : TA} {p pos : Pos} {k : Nat} (T : PySem.BadX.BadTxt X.prog X.K X.mg nm "at" s1 s2 C fI B) (hr : Room k X.A) (ha : PA X [a] ta) (hg : Gl X nm) (hd : (nm == ("__debug__" : Str)) = false)
    (he : starEach (a :: []) X.env = (false, eval a X.env) :: starEach [] X.env := by rfl) (hpl : (backTo pos (starEach [] X.env)).any (·.1) = false := by rfl) :
    PMk X (.Call (.Name nm p) [a] [] pos) (tMkBad C s1 s2 ta) := by
  intro pins s σ H Q I h
  refine wpAny_Call_Name_kw (ld_glob I hg T.gC ?_ hd)
  refine PySem.W.callWith_K (h₀ := X.base) I.ok.mod.kin T.kC (thn (ha.run pos pins s σ H _ I h) fun us s1' hh => ?_) he hpl
  obtain ⟨vs, H1, I1, r1, n, ev, ⟨hn, hl⟩, q1⟩ := hh
  subst ev
  refine ⟨I1.kIn, ?_⟩
  cases r1 with
  | cons rv rn =>
    rename_i v' us'
    cases rn
    have rv0 := rv
    obtain ⟨tk0, rfl⟩ := rv
    show wpAny _ _ (call (.ref C) [.int n tk0]) _ _ _
    have hlim := I1.nolimit
    obtain ⟨mb, hB, hbb⟩ := I1.ok.mod.blt
    have keepB : ∀ b o, X.base.get? b = some o → s1'.heap.get? b = some o := fun b o e => I1.bk b o e
    obtain ⟨hp, g, dr, tk, os⟩ := s1'
    refine wpAny_call (PySem.BadX.bad_made T I1.kIn hlim (I1.ok.mod.glob.keeps keepB) (hB.keeps keepB) (by rw [hbb _ (by decide)]; rfl) hn hl (by have := hr.dp; omega) fun h' tk' e d M => ?_)
    show MkP X pins σ Q (.ref e) ⟨h', g, dr, tk', os⟩
    obtain ⟨oe, fv, hoe, hc, hd', hdat, h1⟩ := M.obj
    have hns := M.ns
    obtain ⟨G', g1, g2⟩ := restrict h' fun b => decide (b ≠ e)
    have gk : ∀ b, b ≠ e → G'.get? b = h'.get? b := fun b hb => g1 b (decide_eq_true hb)
    have ge : G'.get? e = none := g2 e (by simp)
    have old : ∀ b o, hp.get? b = some o → G'.get? b = some o := fun b o q => (gk b (Nat.ne_of_lt (Nat.lt_of_lt_of_le (Heap.lt_size q) M.new))).trans (M.keep b o q)
    have ob : ObjOk X.prog X.w (upd H1 d (.xd [(("at" : Str), .int n)])) G' d (.xd [(("at" : Str), .int n)]) :=
      ⟨_, hns.at (fun o q => (gk d M.dne).trans q), fun f => relO_bad rv0 f⟩
    have J : Inv X pins σ (upd H1 d (.xd [(("at" : Str), .int n)])) ⟨G', g, dr, tk', os⟩ := I1.laid (t' := tk') old M.dbig ob
    refine ⟨e, oe, fv, ⟨G', g, dr, tk', os⟩, _, .ref C, some d, rfl, J, fun b o q => ?_, ge, hoe, ⟨hc, hd'⟩, hdat, h1, ?_, rfl, I1.bare, raises_own T.exC T.tyC, q1 d (I1.hok.fresh M.dbig)⟩
    · by_cases hb : b = e
      · have q' : G'.get? b = some o := q
        rw [hb, ge] at q'; cases q'
      · exact (gk b hb).symm.trans q
    · rw [upd_ne (Ne.symm M.dne)]
      exact I1.hok.fresh M.new
end
end L2

set_option Elab.async false
set_option linter.all false
set_option maxRecDepth 100000
set_option maxHeartbeats 2000000
namespace L2
open PySem PySem.Spec PyProof.Rows StX
def rIsEd (K : PySem.W.Frag) (D a : Addr) (d : Option Addr) : List V → Hp → VK → Prop := fun xs H Q => ∃ (c : V) (cv : Value) (b : Bool) (dd : Addr) (v : V), xs = [.ref a, c] ∧ (∀ u, RelV c u → u = cv) ∧ PySem.W.kitOne K (.ref D) cv = some b ∧ d = some dd ∧ H dd = some (.xd [(("at" : Str), v)]) ∧ Q (.bl b) H
theorem call_isEd {X : Cx} {a D : Addr} {oe : Obj} {d : Option Addr} {pn : List (Addr × Obj)} (C : ExcC X.K D) (hcl : (PySem.W.clsIn X.K D).isSome = true) (hz : Zc (.ref D) d oe) (hf : ∃ vs, oe.data = .fields vs) : CallR (X.suite a ((a, oe) :: pn)) (.builtin "isinstance") (rIsEd X.K D a d) := by
  intro pins s σ H xs us Q I rv h
  obtain ⟨c, cv, b, dd, v, rfl, hc, hk, rfl, hdd, q⟩ := h
  cases rv with
  | cons r1 rn =>
    cases rn with
    | cons r2 rn2 =>
      cases rn2
      cases r1
      cases hc _ r2
      obtain ⟨ha, _⟩ := I.pin (a, oe) (List.mem_append_left _ List.mem_cons_self)
      obtain ⟨vs, hd⟩ := hf
      have hx : ObjOk X.prog X.w H s.heap dd (.xd [(("at" : Str), v)]) := I.hok dd _ hdd
      obtain ⟨mA, hns, hr⟩ := hx
      obtain ⟨od, ho, hl⟩ := lookIn_ns hns
      have J : PySem.W.InstAt s.heap a oe D (some od) := ⟨ha, hz.1, by unfold PySem.W.notCls; rw [hd] <;> rfl, by rw [hz.2]; exact ho⟩
      exact PySem.W.kia_one (PySem.W.kitx_exc hcl C.hg C.hk C.hs C.ha C.hn C.ht C.hm) I.kIn J hk (fun z => by cases z) (fun tk => ⟨.bl b, H, I.tok _, rfl, q⟩)
def rCntB : V → List V → Hp → VK → Prop := fun x xs H Q => ∃ (p : Addr) (bs : List Bool), x = .ref p ∧ xs = [.bl true] ∧ H p = some (.lst (bs.map V.bl)) ∧ Q (.int ((bs.countP id : Nat) : Int)) H
theorem mt_countB {X : Cx} : MtR X "list.count" rCntB := by
  intro pins s σ H x xs v us Q I rx rv h
  obtain ⟨p, bs, rfl, rfl, hp, q⟩ := h
  cases rx
  obtain ⟨u, rfl, ru⟩ := rv.one
  cases ru
  obtain ⟨z, its, n, r, hl, e⟩ := I.lstM hp
  have hits : its = bs.map Value.bool := by
    clear q z hl e hp
    induction bs generalizing its with
    | nil =>
      cases r
      rfl
    | cons b bs ih =>
      cases r with
      | cons h t =>
        cases h
        rw [ih _ t]
        rfl
  subst hits
  refine call_meets F.slot_list_count ⟨_, e, rfl⟩ F.entry_list_count (F.args_list_count_2 _ _) (SeqAt.list_countAt p _ n none #[] (.bool true) (fun y => match y with | .bool b => b | _ => false)) ⟨e, fun y hy => ?_, ?_⟩
  · have hy := Array.mem_toList_iff.mpr hy
    obtain ⟨b, _, rfl⟩ := List.mem_map.mp hy
    have h1 := SeqAt.EqAt.bool_bool (A := X.A.in1) (s := s) b true
    have e1 : (b == true) = b := by cases b <;> rfl
    rw [e1] at h1
    exact h1
  · have e2 : List.countP (fun y : Value => match y with | .bool b => b | _ => false) (bs.map Value.bool) = bs.countP id := by
      rw [List.countP_map]
      rfl
    refine ⟨.int ((bs.countP id : Nat) : Int), H, I.tok _, ⟨s.toks, ?_⟩, q⟩
    rw [← e2]
def rInT (K : PySem.W.Frag) : R2 := fun x y H Q => ∃ d ds, Dp K H x d ∧ Dp K H y (.tuple ds) ∧ SeqAt.shaped d = true ∧ SeqAt.shaped (.tuple ds) = true ∧ Q (.bl (ds.any fun z => PyData.eqv z d)) H
theorem op_inT {X : Cx} (hu : X.A.units + 65 < cLine) : OpR X (compareOp .In) (rInT X.K) := by
  intro pins s σ H x y v u Q I rx ry h
  obtain ⟨d, ds, hd, he, sd, se, q⟩ := h
  obtain ⟨as, r1⟩ := Dp.reads I d x v hd rx
  obtain ⟨bs, r2⟩ := Dp.reads I (.tuple ds) y u he ry
  exact SeqAt.in_tuple_reads r2 r1 (SeqAt.canLay_of_shaped se) (SeqAt.canLay_of_shaped sd) (PyProof.Rows.room_in_shaped sd hu) ⟨.bl _, H, I, rfl, q⟩
def tCallX (sp : Sp) (E : XK) (t : TA) : TE := fun σ H Q => t σ H fun vs H1 => sp vs H1 Q E
section
variable {X : Cx} {k : Nat} {f : Addr} {sp : Sp} {x : Str} {e : Expr} {es : List Expr} {t : TA} {p pos : Pos} {E : XK}
theorem pe_callX (F : FnR X.prog X.w X.K X.mg X.base (L2.CX X.prog X.w) k f sp) (hr : Room k X.A) (hg : Gl X x) (hm : X.mg x = some (.ref f)) (hk : PySem.W.keepIn X.K (.ref f) = true) (px : Passes (L2.CX X.prog X.w) X E)
    (ha : PA X (e :: es) t) (hdb : (x == ("__debug__" : Str)) = false := by decide) (he : starEach (e :: es) X.env = (false, eval e X.env) :: starEach es X.env := by rfl) (hpl : (backTo pos (starEach es X.env)).any (·.1) = false := by rfl) :
    PE X (.Call (.Name x p) (e :: es) [] pos) (tCallX sp E t) := by
  refine ⟨fun pins s σ H Q I h => ?_⟩
  refine wpAny_Call_Name_kw (ld_glob I hg hm ?_ hdb)
  refine PySem.W.callWith_K (h₀ := X.base) I.ok.mod.kin hk (thn (ha.run pos pins s σ H _ I h) fun us s1 ⟨vs, H1, I1, r, q⟩ => ⟨I1.kIn, ?_⟩) he hpl
  exact wpAny_call (run_fnR F hr px I1 r q)
end
theorem takes_len {X : Cx} {W : WX} (tk : Takes X W) : Takes X (fun cls d σ H => σ.length = X.N.length → W cls d σ H) := by
  intro u s' h
  obtain ⟨a, B, sI, pins, σ, H, cls, d, h1, I, h3, h4, h5, h6, h7, h8, h9⟩ := h
  exact tk u s' ⟨a, B, sI, pins, σ, H, cls, d, h1, I, h3, h4, h5, h6, h7, h8, h9 I.len⟩
section
variable {P : Program} {w : World} {K : PySem.W.Frag} {mg : Str → Option Value} {base : Heap} {x qual : Str} {params : Arguments} {body : List Stmt} {scope : Scope} {f : Addr} {fd : FuncData}
theorem FunD.rX {N ps : List Str} {k : Nat} {sp : Sp} (F : FunD K x qual params body scope [] [] f fd) (S : FnScope N ps scope)
    (hb : ∀ (kV doc pm : Value) (an : Option Addr) (cdv ct : Value) (us : List Value), us.length = ps.length → bindArgs (PySem.W.fnOf x qual params body scope .none kV doc pm an cdv ct) ⟨us, []⟩ = pure (ps.zip us))
    (len : ∀ vs H Q E, sp vs H Q E → vs.length = ps.length)
    (hbody : ∀ (cdv : Value) (A : Around) (outer : List Env) (s : Shared) (H : Hp) (vs : List V) (Q : VK) (E : XK), Room k (A.deeper (envOfC qual scope s.heap.objs.size f cdv)) → sp vs H Q E →
      ∃ t, PSs (cxOf (L2.CX P w) P w K mg base N qual scope f cdv A outer s H E) body t ∧ t { nx := fun _ H' => Q .non H', rt := Q } (start N vs) H) : FnR P w K mg base (L2.CX P w) (k + 1) f sp := by
  exact ((F.ok (CX := L2.CX P w) S len hbody).raw (F.bindsN hb) .nil).imp (fun vs H Q E h => by rw [List.append_nil]; exact h)
end
end L2

set_option Elab.async false
set_option linter.all false
set_option maxRecDepth 100000
set_option maxHeartbeats 1000000
namespace CloX
open PySem PySem.Spec PyProof.Rows L2 LamX
def CellV (c : Addr) (v : V) : HO := .ext fun h => ∃ u, RelV v u ∧ h.IsCell c (some u)
def dropC (C : List Addr) (H : Hp) : Hp := fun b => if b ∈ C then none else H b
def backC (C : List Addr) (HZ H' : Hp) : Hp := fun b => if b ∈ C then HZ b else H' b
def FrzC (C : List Addr) (H : Hp) : Prop := ∀ c ∈ C, ∃ oc v, H c = some (.frz oc (CellV c v))
section
variable {C : List Addr} {H HZ H' : Hp} {b : Addr} {o : HO}
theorem drop_in (h : b ∈ C) : dropC C H b = none := by unfold dropC; rw [if_pos h]
theorem drop_out (h : b ∉ C) : dropC C H b = H b := by unfold dropC; rw [if_neg h]
theorem back_in (h : b ∈ C) : backC C HZ H' b = HZ b := by unfold backC; rw [if_pos h]
theorem back_out (h : b ∉ C) : backC C HZ H' b = H' b := by unfold backC; rw [if_neg h]
theorem FrzC.no (f : FrzC C H) (e : H b = none) : b ∉ C := fun z => by
  obtain ⟨_, _, q⟩ := f b z
  rw [e] at q
  cases q
theorem FrzC.nx (f : FrzC C H) (e : H b = some o) (n : ∀ oc v, o ≠ .frz oc (CellV b v)) : b ∉ C := fun z => by
  obtain ⟨oc, v, q⟩ := f b z
  rw [e] at q
  exact n oc v (Option.some.inj q)
end
section
variable {P : Program} {w : World} {C fs : List Addr} {H HZ H' : Hp} {h h' B : Heap}
theorem frz_at (f : FrzC C HZ) (hok : HOk P w HZ h) {c : Addr} (hc : c ∈ C) : ∃ oc v, HZ c = some (.frz oc (CellV c v)) ∧ h.get? c = some oc ∧ ∃ u, RelV v u ∧ h.IsCell c (some u) := by
  obtain ⟨oc, v, e⟩ := f c hc
  obtain ⟨e1, e2, _, _⟩ := hok c _ e
  exact ⟨oc, v, e, e1, e2⟩
theorem un_back (u : Un fs [] (dropC C HZ) H' h h') (f : FrzC C HZ) : Un fs [] HZ (backC C HZ H') h h' := by
  refine ⟨fun b o e n hb hx => u.keep b o e (by rw [drop_out (f.no n)]; exact n) hb hx, fun b o e n hb hx => u.slot b o e (by rw [drop_out (f.no n)]; exact n) hb hx, fun b o e n hx => ?_, fun b o e hx => u.there b o e hx, fun b xs e => ?_, fun b o v e => ?_, fun b ps e => ?_⟩
  · rw [back_out (f.no n)]
    exact u.free b o e (by rw [drop_out (f.no n)]; exact n) hx
  · have nb := f.nx e (fun oc v z => by cases z)
    rw [back_out nb]
    exact u.tups b xs (by rw [drop_out nb]; exact e)
  · by_cases hb : b ∈ C
    · rw [back_in hb]
      exact e
    · rw [back_out hb]
      exact u.frzs b o v (by rw [drop_out hb]; exact e)
  · have nb := f.nx e (fun oc v z => by cases z)
    rw [back_out nb]
    exact u.tbls b ps (by rw [drop_out nb]; exact e)
theorem ub_back (u : UB fs (dropC C HZ) H' h B h') (f : FrzC C HZ) : UB fs HZ (backC C HZ H') h B h' := by
  refine ⟨fun b o e n hb => u.keep b o e (by rw [drop_out (f.no n)]; exact n) hb, fun b o e hb => u.slot b o e hb, fun b o e n => ?_, fun b o e hx => u.there b o e hx, fun b xs e => ?_, fun b o v e => ?_, fun b ps e => ?_⟩
  · rw [back_out (f.no n)]
    exact u.free b o e (by rw [drop_out (f.no n)]; exact n)
  · have nb := f.nx e (fun oc v z => by cases z)
    rw [back_out nb]
    exact u.tups b xs (by rw [drop_out nb]; exact e)
  · by_cases hb : b ∈ C
    · rw [back_in hb]
      exact e
    · rw [back_out hb]
      exact u.frzs b o v (by rw [drop_out hb]; exact e)
  · have nb := f.nx e (fun oc v z => by cases z)
    rw [back_out nb]
    exact u.tbls b ps (by rw [drop_out nb]; exact e)
theorem ok_back (hok : HOk P w H' B) (free : ∀ c ∈ C, H' c = none) (hz : HOk P w HZ h) (f : FrzC C HZ) (kp : ∀ c ∈ C, ∀ o, h.get? c = some o → B.get? c = some o) : HOk P w (backC C HZ H') B := fun a o e => by
  by_cases ha : a ∈ C
  · rw [back_in ha] at e
    obtain ⟨oc, v, q⟩ := f a ha
    rw [q] at e
    have e := Option.some.inj e
    subst e
    obtain ⟨e1, e2, ⟨o3, e3⟩, e4⟩ := hz a _ q
    exact ⟨kp a ha _ e1, e4 h B e2 (kp a ha), ⟨o3, kp a ha _ e3⟩, e4⟩
  · rw [back_out ha] at e
    refine (hok a o e).stay (fun b u _ q => q) (fun b q => ?_) (fun b xs q => ?_)
    · have nb : b ∉ C := fun z => by rw [free b z] at q; cases q
      rw [back_out nb]
      exact q
    · have nb : b ∉ C := fun z => by rw [free b z] at q; cases q
      rw [back_out nb]
      exact q
theorem ok_drop (hok : HOk P w HZ h) (f : FrzC C HZ) : HOk P w (dropC C HZ) h := fun a o e => by
  have ha : a ∉ C := fun z => by rw [drop_in z] at e; cases e
  rw [drop_out ha] at e
  refine (hok a o e).stay (fun b u _ q => q) (fun b q => ?_) (fun b xs q => ?_)
  · rw [drop_out (f.nx q (fun oc v z => by cases z))]
    exact q
  · rw [drop_out (f.nx q (fun oc v z => by cases z))]
    exact q
end
section
variable {P : Program} {w : World} {K : PySem.W.Frag} {mg : Str → Option Value} {base : Heap} {A : Around} {outer : List Env} {C : List Addr} {HZ : Hp} {s s' : Shared} {Q : VK} {E : XK} {u : Value}
theorem env_drop (e0 : Env0 P w K mg base A outer s HZ) (f : FrzC C HZ) : Env0 P w K mg base A outer s (dropC C HZ) :=
  ⟨e0.frames, e0.mod, fun b o e => ⟨(e0.bs b o e).1, by rw [drop_out (f.no (e0.bs b o e).2)]; exact (e0.bs b o e).2⟩, e0.bsz, e0.funs, fun b hb => by rw [drop_out (f.no (e0.frf b hb))]; exact e0.frf b hb, ok_drop e0.hok f, e0.bare⟩
theorem nofr (e0 : Env0 P w K mg base A outer s HZ) (f : FrzC C HZ) : ∀ c ∈ C, c ∉ frs outer := fun c hc z => f.no (e0.frf c z) hc
theorem ce_back (e0 : Env0 P w K mg base A outer s HZ) (f : FrzC C HZ) (c : CE outer P w (dropC C HZ) s (fun v H' => (∀ c ∈ C, H' c = none) → Q v (backC C HZ H')) u s') : CE outer P w HZ s Q u s' := by
  obtain ⟨v, H', os, ag, un, hok, r, q⟩ := c
  have hfree : ∀ c ∈ C, H' c = none := fun c hc => by
    obtain ⟨oc, _, _, e, _⟩ := frz_at f e0.hok hc
    exact un.free c oc e (drop_in hc) (by simp)
  exact ⟨v, backC C HZ H', os, ag, un_back un f, ok_back hok hfree e0.hok f (fun c hc o e => un.keep c o e (drop_in hc) (nofr e0 f c hc) (by simp)), r, q hfree⟩
theorem cx_back (e0 : Env0 P w K mg base A outer s HZ) (f : FrzC C HZ) (c : L2.CX P w outer (dropC C HZ) s (fun cls d H' => (∀ c ∈ C, H' c = none) → E cls d (backC C HZ H')) u s') : L2.CX P w outer HZ s E u s' := by
  obtain ⟨a, B, H', cls, d, rfl, fl, hok, ub, na, os, ag, q⟩ := c
  have kp : ∀ c ∈ C, ∀ o, s.heap.get? c = some o → B.get? c = some o := fun c hc o e => ub.keep c o e (drop_in hc) (nofr e0 f c hc)
  have hfree : ∀ c ∈ C, H' c = none := fun c hc => by
    obtain ⟨oc, _, _, e, _⟩ := frz_at f e0.hok hc
    exact ub.free c oc e (drop_in hc)
  have nC : a ∉ C := fun hc => by
    obtain ⟨oc, _, _, e, _⟩ := frz_at f e0.hok hc
    have h1 := kp a hc oc e
    rw [fl.2.1] at h1
    cases h1
  exact ⟨a, B, backC C HZ H', cls, d, rfl, fl, ok_back hok hfree e0.hok f kp, ub_back ub f, by rw [back_out nC]; exact na, os, ag, q hfree⟩
end
end CloX

set_option Elab.async false
set_option linter.all false
set_option maxRecDepth 100000
set_option maxHeartbeats 1000000
namespace CloX
open PySem PySem.Spec PyProof.Rows L2 LamX
section
variable {P : Program} {w : World} {K : PySem.W.Frag} {mg : Str → Option Value} {base : Heap} {A : Around} {outer : List Env} {C fs : List Addr} {H HP H' : Hp} {h h' : Heap} {s s' : Shared} {Q : VK} {u : Value}
theorem frz_on (f : FrzC C HP) (un : Un fs [] HP H' h h') : FrzC C H' := fun c hc => by
  obtain ⟨oc, v, e⟩ := f c hc
  exact ⟨oc, v, un.frzs c oc _ e⟩
theorem un_hide (un : Un fs [] HP H' h h') (f : FrzC C HP) (hk : HOk P w HP h) (hok : HOk P w H' h') (nf : ∀ c ∈ C, c ∉ fs) : Un fs [] (dropC C HP) (dropC C H') h h' := by
  refine ⟨fun b o e n hb hx => ?_, fun b o e n hb hx => ?_, fun b o e n hx => ?_, fun b o e hx => un.there b o e hx, fun b xs e => ?_, fun b o v e => ?_, fun b ps e => ?_⟩
  · by_cases hC : b ∈ C
    · obtain ⟨oc, v, e1, e2, _⟩ := frz_at f hk hC
      rw [e2] at e
      have e := Option.some.inj e
      subst e
      exact (hok b _ (un.frzs b oc _ e1)).1
    · rw [drop_out hC] at n
      exact un.keep b o e n hb hx
  · have hC : b ∉ C := fun z => nf b z hb
    rw [drop_out hC] at n
    exact un.slot b o e n hb hx
  · by_cases hC : b ∈ C
    · exact drop_in hC
    · rw [drop_out hC] at n ⊢
      exact un.free b o e n hx
  · have hC : b ∉ C := fun z => by rw [drop_in z] at e; cases e
    rw [drop_out hC] at e ⊢
    exact un.tups b xs e
  · have hC : b ∉ C := fun z => by rw [drop_in z] at e; cases e
    rw [drop_out hC] at e ⊢
    exact un.frzs b o v e
  · have hC : b ∉ C := fun z => by rw [drop_in z] at e; cases e
    rw [drop_out hC] at e ⊢
    exact un.tbls b ps e
theorem ce_hide (e0 : Env0 P w K mg base A outer s HP) (f : FrzC C HP) (c : CE outer P w HP s (fun v H' => Q v (dropC C H')) u s') : CE outer P w (dropC C HP) s Q u s' := by
  obtain ⟨v, H', os, ag, un, hok, r, q⟩ := c
  exact ⟨v, dropC C H', os, ag, un_hide un f e0.hok hok (nofr e0 f), ok_drop hok (frz_on f un), r, q⟩
theorem un_show {HN : Hp} (un : Un fs [] H H' h h') (out : ∀ b, b ∉ C → HN b = H' b) (new : ∀ c ∈ C, h.objs.size ≤ c) (hk : HOk P w H h) : Un fs [] H HN h h' := by
  have old : ∀ b o, h.get? b = some o → b ∉ C := fun b o e z => absurd (Nat.lt_of_lt_of_le (Heap.lt_size e) (new b z)) (Nat.lt_irrefl _)
  have oldH : ∀ b o, H b = some o → b ∉ C := fun b o e z => absurd (Nat.lt_of_lt_of_le (hk b o e).lt (new b z)) (Nat.lt_irrefl _)
  refine ⟨un.keep, un.slot, fun b o e n hx => ?_, un.there, fun b xs e => ?_, fun b o v e => ?_, fun b ps e => ?_⟩
  · rw [out b (old b o e)]
    exact un.free b o e n hx
  · rw [out b (oldH b _ e)]
    exact un.tups b xs e
  · rw [out b (oldH b _ e)]
    exact un.frzs b o v e
  · rw [out b (oldH b _ e)]
    exact un.tbls b ps e
end
structure Clo where
  params : Arguments
  body : Expr
  scope : Scope
  q : Str
  cl : List (Str × Addr)
  dV : Value
  c' : Addr
abbrev Clo.fd (F : Clo) (doc pm ctv : Value) : FuncData := PySem.W.kdv_fn "<lambda>" F.q F.params (.expr F.body) F.scope F.cl F.dV doc pm (.ref F.c') ctv
def FnV (f : Addr) (F : Clo) : HO := .ext fun h => ∃ doc pm ctv, h.get? f = some ({ cls := .type "function", data := .func (F.fd doc pm ctv) } : Obj)
inductive DflAt (H : Hp) (F : Clo) : List Str → Prop
  | none (e : F.dV = .none) (b : ∀ doc pm ctv, bindArgs (F.fd doc pm ctv) ⟨[], []⟩ = pure []) : DflAt H F []
  | one {T : Addr} {x : Str} {v : V} (e : F.dV = .ref T) (h : H T = some (.tup [v])) (b : ∀ doc pm ctv, ∃ k, bindArgs (F.fd doc pm ctv) ⟨[], []⟩ = seqItems? F.dV >>= k ∧ ∀ u, k (some #[u]) = pure [(x, u)]) (l : F.scope.names.lookup x = some .local) : DflAt H F [x]
structure FnAt (H : Hp) (f : Addr) (F : Clo) : Prop where
  fn : H f = some (FnV f F)
  code : H F.c' = some (CodeO F.c' F.q)
  dfl : ∃ xs, DflAt H F xs
structure CloS (N : List Str) (scope : Scope) : Prop where
  kind : scope.kind = .function
  co : scope.isCoroutine = false
  gen : scope.isGenerator = false
  own : ∀ y ∈ scope.names, y.2 ≠ .cell
  nl : ∀ x ∈ N, scope.names.lookup x ≠ some .local
def cloSB (N : List Str) (scope : Scope) : Bool := decide (scope.kind = .function) && !scope.isCoroutine && !scope.isGenerator && (scope.names.all fun y => !decide (y.2 = .cell)) && N.all fun x => !decide (scope.names.lookup x = some .local)
theorem cloS_by {N : List Str} {scope : Scope} (h : cloSB N scope = true) : CloS N scope := by
  unfold cloSB at h
  simp only [Bool.and_eq_true, Bool.not_eq_true', decide_eq_true_eq, decide_eq_false_iff_not, List.all_eq_true] at h
  obtain ⟨⟨⟨⟨h1, h2⟩, h3⟩, h4⟩, h5⟩ := h
  exact ⟨h1, h2, h3, h4, h5⟩
structure CellsAt (H : Hp) (F : Clo) (N : List Str) (σ : L2.St) : Prop where
  len : σ.length = N.length
  has : ∀ y ∈ F.scope.names, y.2 = .free → ∃ c, F.cl.lookup y.1 = some c
  inj : ∀ x y c, F.cl.lookup x = some c → F.cl.lookup y = some c → x = y
  val : ∀ (i : Nat) (x : Str) (v : V) (c : Addr), N[i]? = some x → σ[i]? = some (some v) → F.cl.lookup x = some c → ∃ oc, H c = some (.frz oc (CellV c v))
  frz : FrzC (F.cl.map (·.2)) H
abbrev cloEnv (F : Clo) (L f : Addr) : Env := PySem.W.envX F.q F.scope L f (.ref F.c') F.cl
def cloCx (P : Program) (w : World) (K : PySem.W.Frag) (mg : Str → Option Value) (base : Heap) (N : List Str) (A : Around) (outer : List Env) (s : Shared) (H : Hp) (E : XK) (F : Clo) (f : Addr) : Cx where
  prog := P
  w := w
  K := K
  mg := mg
  base := base
  A := A.deeper (cloEnv F s.heap.objs.size f)
  N := N
  s_0 := s
  H_0 := H
  env := cloEnv F s.heap.objs.size f
  outer := outer
  stack := cloEnv F s.heap.objs.size f :: outer
  ex := []
  fn := fun _ => false
  calm := true
  pn := []
  xe := fun e s' => wpAny (model P w) (A.deeper (cloEnv F s.heap.objs.size f)) (leaving (cloEnv F s.heap.objs.size f) e) (fun _ s'' => L2.CX P w outer H s E e s'') (fun e' s'' => L2.CX P w outer H s E e' s'') s'
end CloX

set_option Elab.async false
set_option linter.all false
set_option maxRecDepth 100000
set_option maxHeartbeats 1000000
namespace CloX
open PySem PySem.Spec PyProof.Rows L2 LamX
section
variable {P : Program} {w : World} {K : PySem.W.Frag} {mg : Str → Option Value} {base : Heap} {A : Around} {outer : List Env} {HZ : Hp} {s : Shared} {Q : VK} {E : XK} {F : Clo} {N : List Str} {σ : L2.St} {f : Addr}
theorem clo_binds (hok : HOk P w HZ s.heap) {xs : List Str} (D : DflAt HZ F xs) (doc pm ctv : Value) : ∃ bs : List (Str × Value), BindsTo s (F.fd doc pm ctv) ⟨[], []⟩ bs ∧ ∀ y ∈ bs, F.scope.names.lookup y.1 = some .local := by
  cases D with
  | none e b => exact ⟨[], BindsTo.of_eq (b doc pm ctv), fun y hy => by cases hy⟩
  | one e h b l =>
    rename_i T x v
    obtain ⟨_, its, r, o, ho, hc, hd⟩ := hok T _ h
    obtain ⟨k, h1, h2⟩ := b doc pm ctv
    cases r with
    | cons r1 rn =>
      cases rn
      rename_i u
      refine ⟨[(x, u)], ?_, fun y hy => ?_⟩
      · obtain ⟨n, hd⟩ := hd
        exact BindsTo.of_defaults e ho hd h1 (h2 u)
      · have e2 : y = (x, u) := by simpa using hy
        rw [e2]
        exact l
theorem clo_run {k : Nat} {tb : TE} (e0 : Env0 P w K mg base A outer s HZ) (hd : A.handled = none) (hr : Room (k + 1) A) (C : FnAt HZ f F) (V : CellsAt HZ F N σ) (L : CloS N F.scope)
    (hbody : ∀ (A : Around) (outer : List Env) (s : Shared) (H : Hp), Room k (A.deeper (cloEnv F s.heap.objs.size f)) → PE (cloCx P w K mg base N A outer s H (fun cls d H' => (∀ c ∈ F.cl.map (·.2), H' c = none) → E cls d (backC (F.cl.map (·.2)) HZ H')) F f) F.body tb)
    (h : tb σ (dropC (F.cl.map (·.2)) HZ) (fun v H' => (∀ c ∈ F.cl.map (·.2), H' c = none) → Q v (backC (F.cl.map (·.2)) HZ H'))) :
    codeAny (model P w) A (.call (.ref f) ⟨[], []⟩) (CR (L2.CX P w) outer P w HZ s Q E) s := by
  obtain ⟨⟨doc, pm, ctv, hf⟩, _, _⟩ := e0.hok f _ C.fn
  obtain ⟨⟨oc, vs, t, hoc, hdc, hvc⟩, _, _⟩ := e0.hok F.c' _ C.code
  obtain ⟨xs, D⟩ := C.dfl
  obtain ⟨bs, hb, hbl⟩ := clo_binds e0.hok D doc pm ctv
  have eL := env_drop e0 V.frz
  refine PySem.W.kla_callFunE hr.depth hf rfl L.co L.gen rfl ⟨F.c', oc, vs, t, rfl, hoc, hdc, hvc⟩ ?_
  refine hb _ _ _ _ ?_
  refine wpAny_newFunctionEnv L.own hbl (fun h₁ hns hsb => ⟨(e0.mod.nolimit.keeps fun b o q => (e0.bs b o q).1).fresh _ hsb, ?_⟩) L.kind
  show codeAny _ _ (.expr F.body (cloEnv F s.heap.objs.size f)) _ _
  have kp : ∀ b o, s.heap.get? b = some o → h₁.get? b = some o := fun b o e => hsb.extBut b o (Nat.ne_of_lt (Heap.lt_size e)) (Heap.get?_push_of_some _ e)
  have cin : ∀ {y c}, F.cl.lookup y = some c → c ∈ F.cl.map (·.2) := fun {y c} e => List.mem_map.mpr ⟨(y, c), PySem.mem_of_lookup e, rfl⟩
  have cellAt : ∀ {y c}, F.cl.lookup y = some c → ∃ oc v, HZ c = some (.frz oc (CellV c v)) ∧ s.heap.get? c = some oc ∧ ∃ u, RelV v u ∧ s.heap.IsCell c (some u) := fun e => frz_at V.frz e0.hok (cin e)
  have noA : ∀ b : Addr, b ∉ (cloCx P w K mg base N A outer s (dropC (F.cl.map (·.2)) HZ) (fun cls d H' => (∀ c ∈ F.cl.map (·.2), H' c = none) → E cls d (backC (F.cl.map (·.2)) HZ H')) F f).ex := fun b z => absurd (show b ∈ ([] : List Addr) from z) (by simp)
  have J : Inv (cloCx P w K mg base N A outer s (dropC (F.cl.map (·.2)) HZ) (fun cls d H' => (∀ c ∈ F.cl.map (·.2), H' c = none) → E cls d (backC (F.cl.map (·.2)) HZ H')) F f) [] σ (dropC (F.cl.map (·.2)) HZ) { s with heap := h₁, toks := s.toks + bs.length } := by
    refine ⟨⟨e0.mod, L.kind, rfl, rfl, Nat.le_refl _, fun y z c e1 e2 => V.inj y z c e1 e2, fun y hy => ?_, fun y c z _ => ?_, fun _ => hd, Around.frames_deeper e0.frames, .inr ⟨rfl, rfl⟩, fun b z => absurd z (noA b), eL.bs, eL.bsz, fun b _ _ => noA b,
      fun b z => absurd z (noA b), eL.funs, eL.frf⟩,
      rfl, e0.bare, Un.kept kp, ⟨_, hns, fun i y v e1 e2 e3 => ?_⟩, fun y c e => ?_, eL.hok.fresh (Nat.le_refl _), fun y c e => drop_in (cin e), fun q hq => absurd (show q ∈ ([] : List (Addr × Obj)) ++ [] from hq) (by simp), eL.hok.kept kp, V.len⟩
    · have hy : F.scope.names.lookup y = some .cell ∨ F.scope.names.lookup y = some .free := hy
      rcases hy with hy | hy
      · exact absurd rfl (L.own _ (PySem.mem_of_lookup hy))
      · exact V.has _ (PySem.mem_of_lookup hy) rfl
    · have z : false = true := z
      cases z
    · have e3 : Vis F.scope y := e3
      rcases e3 with k' | k' | k'
      · exact absurd k' (L.nl y (List.mem_of_getElem? e1))
      · exact absurd rfl (L.own _ (PySem.mem_of_lookup k'))
      · obtain ⟨c, hc⟩ := V.has _ (PySem.mem_of_lookup k') rfl
        have hc : F.cl.lookup y = some c := hc
        obtain ⟨oc2, hz⟩ := V.val i y v c e1 e2 hc
        obtain ⟨oc3, v3, hz3, ho3, u, ru, o, ho, hdd⟩ := cellAt hc
        rw [hz] at hz3
        have ev : CellV c v = CellV c v3 := by
          injection hz3 with z
          injection z
        have hu : ∃ u, RelV v u ∧ s.heap.IsCell c (some u) := by
          obtain ⟨_, e2, _, _⟩ := e0.hok c _ hz
          exact e2
        obtain ⟨u, ru, o, ho, hdd⟩ := hu
        exact ⟨u, ru, .inr ⟨.inr k', c, hc, o, kp _ _ ho, hdd⟩⟩
    · obtain ⟨_, _, _, _, u, _, o, ho, hdd⟩ := cellAt e
      exact ⟨some u, o, kp _ _ ho, hdd⟩
  refine PySem.W.kla_codeExpr (wpAny_mono ((hbody _ _ s _ (hr.deeper _)).run [] _ _ _ _ J h) (fun v s' hq => ?_) fun e s' hq => ?_)
  · obtain ⟨w', H', J', rv, q⟩ := hq
    exact ce_back e0 V.frz ⟨w', H', J'.os, J'.bare, J'.base, J'.hok, rv, q⟩
  · exact wpAny_mono hq (fun _ s'' hc => cx_back e0 V.frz hc) (fun e' s'' hc => cx_back e0 V.frz hc)
end
end CloX

set_option Elab.async false
set_option linter.all false
set_option maxRecDepth 100000
set_option maxHeartbeats 1000000
namespace CloX
open PySem PySem.Spec PyProof.Rows L2 LamX
section
variable {X : Cx} {pins : List (Addr × Obj)} {σ : L2.St} {H : Hp} {s : Shared}
theorem inv_fnV {F : Clo} {o : Obj} {t' : Nat} {doc pm ctv : Value} (I : Inv X pins σ H s) (ho : o = { cls := .type "function", data := .func (F.fd doc pm ctv) }) :
    Inv X pins σ (upd H s.heap.objs.size (FnV s.heap.objs.size F)) { s with heap := s.heap.push o, toks := t' } := by
  subst ho
  refine I.laid (a := s.heap.objs.size) (fun b u e => Heap.get?_push_of_some _ e) (Nat.le_refl _) ?_
  have e : (s.heap.push ({ cls := .type "function", data := .func (F.fd doc pm ctv) } : Obj)).get? s.heap.objs.size = some ({ cls := .type "function", data := .func (F.fd doc pm ctv) } : Obj) := Heap.get?_push_size _ rfl
  exact ⟨⟨doc, pm, ctv, e⟩, ⟨_, e⟩, fun h1 h2 ⟨d, p, t, z⟩ st => ⟨d, p, t, st _ z⟩⟩
theorem clo_make {T : List (Addr × Str)} {c P : Addr} {params : Arguments} {body : Expr} {scope : Scope} {pos : Pos} {dV : Value} {E : Value → Shared → Prop} {Q : Value → Shared → Prop} (I : Inv X pins σ H s) (TB : TabB X.base X.mg c P) (hcode : X.env.code = .ref c)
    (hm : (P, X.env.qual ++ "<lambda>") ∈ T) (hu : ∀ p ∈ T, p.1 = P → p.2 = X.env.qual ++ "<lambda>") (hT : Tabs T H) (hfree : ∀ y ∈ scope.names, y.2 = .free → ∃ c, X.env.cells.lookup y.1 = some c)
    (h : ∀ (f c' : Addr) (H1 : Hp) (s' : Shared), Inv X pins σ H1 s' → ExtN H H1 → (∀ b, H1 b = none → H b = none) → Tabs T H1 → H f = none → H1 f = some (FnV f ⟨params, body, scope, X.env.qual ++ "<lambda>", cloFrom X.env.cells scope.names [], dV, c'⟩) → H1 c' = some (CodeO c' (X.env.qual ++ "<lambda>")) → Q (.ref f) s') :
    wpAny (model X.prog X.w) X.A (makeTail "<lambda>" (X.env.qual ++ "<lambda>") params (.expr body) scope X.env dV .none none pos pos.line) Q E s := by
  obtain ⟨ps, hP, ht, ha⟩ := hT _ hm
  have bP : s.heap.BuiltinsAt X.mg P := TB.bm.keeps I.bk
  have hP' : s.heap.get? P = some { cls := .none, data := .fields ps } := I.hok P _ hP
  cases hc : codeAmong pos ps.toList with
  | none =>
    refine PySem.W.kdv_makeTail (mg := X.mg) (c := c) (P := P) (ps := ps) (closure_ok hfree) I.ok.glob (I.mod.glob.keeps I.bk) hcode (TB.code.keeps I.bk) hP' ht hc TB.gP bP fun c' ctv doc h' tk hx hge hlt hrec htb => ?_
    obtain ⟨c2, oc, vs, t, e2, hoc, hd, hv⟩ := hrec
    cases e2
    have nC : H c' = none := I.hok.fresh hge
    have I1 := inv_table (t' := tk) (more := #[rawInt pos.line, rawInt pos.col, .ref c']) (h' := h') I hP (fun b o hb e => hx b o hb e) htb hge ⟨oc, vs, t, hoc, hd, hv⟩
    have hE : ExtN H (upd (upd H P (.tbl (ps ++ #[rawInt pos.line, rawInt pos.col, .ref c']))) c' (CodeO c' (X.env.qual ++ "<lambda>"))) := fun b o e n => by
      rw [upd_ne (ne_of_none e nC), upd_ne (fun z => n ps (Option.some.inj (e.symm.trans (by rw [z]; exact hP))))]
      exact e
    have eL : (ps ++ #[rawInt pos.line, rawInt pos.col, .ref c']).toList = ps.toList ++ [rawInt pos.line, rawInt pos.col, .ref c'] := by simp
    have T1 : Tabs T (upd (upd H P (.tbl (ps ++ #[rawInt pos.line, rawInt pos.col, .ref c']))) c' (CodeO c' (X.env.qual ++ "<lambda>"))) := fun p hp => by
      by_cases hb : p.1 = P
      · rw [hu p hp hb, hb]
        refine ⟨_, by rw [upd_ne (ne_of_none hP nC), upd_same], by rw [eL]; exact PySem.TriplesOk_snoc _ _ _ _ ht, fun p' cv hcv => ?_⟩
        rw [eL] at hcv
        rcases among_app _ ht hcv with z | z
        · obtain ⟨c0, e1, e2⟩ := ha p' cv z
          exact ⟨c0, e1, hE _ _ e2 codeO_ne⟩
        · exact ⟨c', z, upd_same⟩
      · obtain ⟨ps', a1, a2, a3⟩ := hT p hp
        refine ⟨ps', by rw [upd_ne (ne_of_none a1 nC), upd_ne hb]; exact a1, a2, fun p' cv hcv => ?_⟩
        obtain ⟨c0, e1, e2⟩ := a3 p' cv hcv
        exact ⟨c0, e1, hE _ _ e2 codeO_ne⟩
    have nF := I1.hok.fresh (Nat.le_refl _)
    have I2 := inv_fnV (F := ⟨params, body, scope, X.env.qual ++ "<lambda>", cloFrom X.env.cells scope.names [], dV, c'⟩) (t' := tk) (doc := doc) (pm := (X.mg "__name__").getD .none) (ctv := ctv) I1 rfl
    refine h h'.objs.size c' _ _ I2 (fun b o e n => ?_) (fun b e => NdefX.upd_none (NdefX.upd_none (NdefX.upd_none e))) (T1.ext fun b o e => ?_) (I.hok.fresh (Nat.le_trans hge (Nat.le_of_lt hlt))) upd_same ?_
    · have e1 := hE b o e n
      exact (upd_ne (ne_of_none e1 nF)).trans e1
    · exact (upd_ne (ne_of_none e nF)).trans e
    · exact (upd_ne (Nat.ne_of_lt hlt)).trans upd_same
  | some cv =>
    obtain ⟨c', e, hco⟩ := ha pos cv hc
    subst e
    refine PySem.W.kdv_makeTailHit (mg := X.mg) (c := c) (P := P) (ps := ps) (closure_ok hfree) I.ok.glob (I.mod.glob.keeps I.bk) hcode (TB.code.keeps I.bk) hP' ht hc bP fun ctv doc h' tk hx hsz => ?_
    have I1 : Inv X pins σ H { s with heap := h', toks := tk } := I.kept hx
    have nF : H h'.objs.size = none := I1.hok.fresh (Nat.le_refl _)
    have I2 := inv_fnV (F := ⟨params, body, scope, X.env.qual ++ "<lambda>", cloFrom X.env.cells scope.names [], dV, c'⟩) (t' := tk) (doc := doc) (pm := (X.mg "__name__").getD .none) (ctv := ctv) I1 rfl
    refine h h'.objs.size c' _ _ I2 (fun b o e n => ?_) (fun b e => NdefX.upd_none e) (hT.ext fun b o e => ?_) nF upd_same ?_
    · exact (upd_ne (ne_of_none e nF)).trans e
    · exact (upd_ne (ne_of_none e nF)).trans e
    · exact (upd_ne (ne_of_none hco nF)).trans hco
end
def tMkClo (T : List (Addr × Str)) (mk : Value → Addr → Clo) : TE := fun σ H Q => Tabs T H ∧ ∀ (f c' : Addr) (dV : Value) (H1 : Hp), ExtN H H1 → (∀ b, H1 b = none → H b = none) → Tabs T H1 → H f = none → FnAt H1 f (mk dV c') → Q (.ref f) H1
section
variable {X : Cx} {T : List (Addr × Str)} {c P : Addr} {params : Arguments} {body : Expr} {scope : Scope} {pos : Pos}
theorem pe_clo0 (TB : TabB X.base X.mg c P) (hcode : X.env.code = .ref c) (hm : (P, X.env.qual ++ "<lambda>") ∈ T) (hu : ∀ p ∈ T, p.1 = P → p.2 = X.env.qual ++ "<lambda>")
    (hfree : ∀ y ∈ scope.names, y.2 = .free → X.env.scope.names.lookup y.1 = some .cell ∨ X.env.scope.names.lookup y.1 = some .free) (hd0 : defaultsOf params X.env = ([], []))
    (hb : ∀ (q : Str) (cl : List (Str × Addr)) (c' : Addr) (doc pm ctv : Value), bindArgs (Clo.fd ⟨params, body, scope, q, cl, .none, c'⟩ doc pm ctv) ⟨[], []⟩ = pure []) :
    PE X (.Lambda params body scope pos) (tMkClo T fun dV c' => ⟨params, body, scope, X.env.qual ++ "<lambda>", cloFrom X.env.cells scope.names [], dV, c'⟩) := by
  refine ⟨fun pins s σ H Q I h => ?_⟩
  obtain ⟨hT, h⟩ := h
  have hfr : ∀ y ∈ scope.names, y.2 = .free → ∃ c, X.env.cells.lookup y.1 = some c := fun y hy e => (hfree y hy e).elim (fun z => I.ok.has _ (.inl z)) fun z => I.ok.has _ (.inr z)
  refine PySem.W.kla_eval hd0 ?_
  rw [makeFunction_eq]
  simp only [List.zip_nil_right, List.filterMap_nil, List.isEmpty_nil, if_true, pure_bind]
  refine clo_make I TB hcode hm hu hT hfr fun f c' H1 s' I1 eN en T1 f0 f1 c1 => ?_
  exact ⟨.ref f, H1, I1, rfl, h f c' .none H1 eN en T1 f0 ⟨f1, c1, [], .none rfl fun doc pm ctv => hb _ _ _ _ _ _⟩⟩
theorem pe_clo1 {x : Str} {i : Int} {j : Nat} {ps : Pos} (TB : TabB X.base X.mg c P) (hcode : X.env.code = .ref c) (hm : (P, X.env.qual ++ "<lambda>") ∈ T) (hu : ∀ p ∈ T, p.1 = P → p.2 = X.env.qual ++ "<lambda>")
    (hfree : ∀ y ∈ scope.names, y.2 = .free → X.env.scope.names.lookup y.1 = some .cell ∨ X.env.scope.names.lookup y.1 = some .free) (hd1 : params.defaults = [.Constant (.int i) j ps]) (hk0 : params.kw_defaults = []) (hl : scope.names.lookup x = some .local)
    (hb : ∀ (q : Str) (cl : List (Str × Addr)) (c' Td : Addr) (doc pm ctv : Value), ∃ k, bindArgs (Clo.fd ⟨params, body, scope, q, cl, .ref Td, c'⟩ doc pm ctv) ⟨[], []⟩ = seqItems? (.ref Td) >>= k ∧ ∀ u, k (some #[u]) = pure [(x, u)]) :
    PE X (.Lambda params body scope pos) (tMkClo T fun dV c' => ⟨params, body, scope, X.env.qual ++ "<lambda>", cloFrom X.env.cells scope.names [], dV, c'⟩) := by
  refine ⟨fun pins s σ H Q I h => ?_⟩
  obtain ⟨hT, h⟩ := h
  have hfr : ∀ y ∈ scope.names, y.2 = .free → ∃ c, X.env.cells.lookup y.1 = some c := fun y hy e => (hfree y hy e).elim (fun z => I.ok.has _ (.inl z)) fun z => I.ok.has _ (.inr z)
  refine PySem.W.kdv_lam (by rw [hd1]; rfl) hk0 ?_
  rw [hd1]
  refine PySem.W.kdv_all1 (wpAny_mono ((pe_int (X := X) (i := i) (j := j) (pos := ps)).run pins s σ H (fun v H1 => v = .int i ∧ H1 = H) I ⟨rfl, rfl⟩) (fun v s1 hq => PySem.W.kdv_all0 ?_) fun _ _ z => z)
  obtain ⟨w0, H0, I0, r0, e1, e2⟩ := hq
  subst e1 e2
  rw [makeFunction_eq]
  simp only [List.zip_nil_right, List.filterMap_nil, List.isEmpty_nil, if_true, pure_bind, List.isEmpty_cons, Bool.false_eq_true, if_false]
  refine wpAny_bind (wpAny_newTextTuple ?_)
  have nT : H0 s1.heap.objs.size = none := I0.hok.fresh (Nat.le_refl _)
  have I1 : Inv X pins σ (upd H0 s1.heap.objs.size (.tup [.int i])) { s1 with heap := s1.heap.push (PySem.W.kdv_tup [v]) } := by
    refine I0.laid (t' := s1.toks) (a := s1.heap.objs.size) (fun b u e => Heap.get?_push_of_some _ e) (Nat.le_refl _) ?_
    refine ⟨by show 1 ≤ sizeLine; decide, [v], .cons r0 .nil, ?_⟩
    exact ⟨_, Heap.get?_push_size _ rfl, rfl, _, rfl⟩
  have e1 : ExtN H0 (upd H0 s1.heap.objs.size (.tup [.int i])) := fun b o e n => (upd_ne (ne_of_none e nT)).trans e
  have T1 : Tabs T (upd H0 s1.heap.objs.size (.tup [.int i])) := hT.ext fun b o e => (upd_ne (ne_of_none e nT)).trans e
  refine clo_make I1 TB hcode hm hu T1 hfr fun f c' H2 s' I2 eN en T2 f0 f1 c1 => ?_
  have f00 : H0 f = none := NdefX.upd_none f0
  exact ⟨.ref f, H2, I2, rfl, h f c' _ H2 (e1.trans eN) (fun b e => NdefX.upd_none (en b e)) T2 f00 ⟨f1, c1, [x], .one rfl (eN _ _ upd_same (fun _ z => by cases z)) (fun doc pm ctv => hb _ _ _ _ _ _ _) hl⟩⟩
end
end CloX

set_option Elab.async false
set_option linter.all false
set_option maxRecDepth 100000
set_option maxHeartbeats 1000000
namespace CloX
open PySem PySem.Spec PyProof.Rows L2 LamX
def cellsIn (cells : List (Str × Addr)) (ns : List Str) : List Addr := ns.filterMap fun y => cells.lookup y
theorem mem_cellsIn {cells : List (Str × Addr)} {ns : List Str} {c : Addr} : c ∈ cellsIn cells ns ↔ ∃ y ∈ ns, cells.lookup y = some c := by
  unfold cellsIn
  exact List.mem_filterMap
structure Shows (cells : List (Str × Addr)) (N ns : List Str) (σ : L2.St) (H HP : Hp) : Prop where
  out : ∀ b, b ∉ cellsIn cells ns → HP b = H b
  non : ∀ c ∈ cellsIn cells ns, H c = none
  frz : FrzC (cellsIn cells ns) HP
  inj : ∀ x y c, cells.lookup x = some c → cells.lookup y = some c → x = y
  hasc : ∀ y ∈ ns, ∃ c, cells.lookup y = some c
  val : ∀ (y : Str) (i : Nat) (v : V) (c : Addr), y ∈ ns → N[i]? = some y → σ[i]? = some (some v) → cells.lookup y = some c → ∃ oc, HP c = some (.frz oc (CellV c v))
theorem Shows.drop {cells : List (Str × Addr)} {N ns : List Str} {σ : L2.St} {H HP : Hp} (S : Shows cells N ns σ H HP) : dropC (cellsIn cells ns) HP = H := by
  funext b
  by_cases hb : b ∈ cellsIn cells ns
  · rw [drop_in hb, S.non b hb]
  · rw [drop_out hb, S.out b hb]
theorem Shows.ext {cells : List (Str × Addr)} {N ns : List Str} {σ : L2.St} {H HP : Hp} (S : Shows cells N ns σ H HP) : ∀ b o, H b = some o → HP b = some o := fun b o e => by
  have hb : b ∉ cellsIn cells ns := fun z => by rw [S.non b z] at e; cases e
  rw [S.out b hb]
  exact e
section
variable {X : Cx} {pins : List (Addr × Obj)} {σ : L2.St} {H : Hp} {s : Shared}
theorem cell_at (I : Inv X pins σ H s) {y : Str} {i : Nat} {v : V} {c : Addr} (hN : X.N[i]? = some y) (hσ : σ[i]? = some (some v)) (hk : X.env.scope.names.lookup y = some .cell ∨ X.env.scope.names.lookup y = some .free) (hc : X.env.cells.lookup y = some c) : ∃ u, RelV v u ∧ s.heap.IsCell c (some u) := by
  obtain ⟨m, _, hl⟩ := I.loc
  obtain ⟨u, r, q⟩ := hl i y v hN hσ (hk.elim (fun z => .inr (.inl z)) (fun z => .inr (.inr z)))
  rcases q with ⟨k', _⟩ | ⟨_, c2, e, z⟩
  · have k' : X.env.scope.names.lookup y = some .local := k'
    rcases hk with z | z <;> rw [z] at k' <;> cases k'
  · rw [hc] at e
    cases e
    exact ⟨u, r, z⟩
theorem show_ok (I : Inv X pins σ H s) (nd : X.N.Nodup) {ns : List Str} (hk : ∀ y ∈ ns, X.env.scope.names.lookup y = some .cell ∨ X.env.scope.names.lookup y = some .free) (hv : ∀ y ∈ ns, ∃ (i : Nat) (v : V), X.N[i]? = some y ∧ σ[i]? = some (some v)) :
    ∃ HP, Shows X.env.cells X.N ns σ H HP ∧ HOk X.prog X.w HP s.heap := by
  have key : ∀ c ∈ cellsIn X.env.cells ns, ∃ q : Obj × V, s.heap.get? c = some q.1 ∧ (∃ u, RelV q.2 u ∧ s.heap.IsCell c (some u)) ∧ ∀ (y : Str) (i : Nat) (v : V), X.N[i]? = some y → σ[i]? = some (some v) → X.env.cells.lookup y = some c → v = q.2 := fun c hc => by
    obtain ⟨y, hy, hl⟩ := mem_cellsIn.mp hc
    obtain ⟨i, v, h1, h2⟩ := hv y hy
    obtain ⟨u, r, o, ho, hd⟩ := cell_at I h1 h2 (hk y hy) hl
    refine ⟨(o, v), ho, ⟨u, r, o, ho, hd⟩, fun y' i' v' h1' h2' hl' => ?_⟩
    have e := I.ok.inj y' y c hl' hl
    subst e
    have li := (List.getElem?_eq_some_iff.mp h1).1
    have ei : i = i' := by
      have l2 := (List.getElem?_eq_some_iff.mp h1').1
      have e1 := (List.getElem?_eq_some_iff.mp h1).2
      have e2 := (List.getElem?_eq_some_iff.mp h1').2
      exact (List.getElem_inj (h₀ := li) (h₁ := l2) nd).mp (e1.trans e2.symm)
    subst ei
    rw [h2] at h2'
    exact (Option.some.inj (Option.some.inj h2')).symm
  classical
  refine ⟨fun b => if hb : b ∈ cellsIn X.env.cells ns then some (.frz (Classical.choose (key b hb)).1 (CellV b (Classical.choose (key b hb)).2)) else H b, ⟨fun b hb => dif_neg hb, fun c hc => ?_, fun c hc => ⟨_, _, dif_pos hc⟩, I.ok.inj, fun y hy => I.ok.has y (hk y hy), fun y i v c hy h1 h2 hl => ?_⟩, fun b o e => ?_⟩
  · obtain ⟨y, hy, hl⟩ := mem_cellsIn.mp hc
    exact I.freeC y c hl
  · have hc : c ∈ cellsIn X.env.cells ns := mem_cellsIn.mpr ⟨y, hy, hl⟩
    have sp := Classical.choose_spec (key c hc)
    refine ⟨(Classical.choose (key c hc)).1, (dif_pos hc).trans ?_⟩
    rw [sp.2.2 y i v h1 h2 hl]
  · by_cases hb : b ∈ cellsIn X.env.cells ns
    · have e : (if hb : b ∈ cellsIn X.env.cells ns then some (HO.frz (Classical.choose (key b hb)).1 (CellV b (Classical.choose (key b hb)).2)) else H b) = some o := e
      rw [dif_pos hb] at e
      have e := Option.some.inj e
      subst e
      have sp := Classical.choose_spec (key b hb)
      exact ⟨sp.1, sp.2.1, ⟨_, sp.1⟩, fun h1 h2 ⟨u, r, o, ho, hd⟩ st => ⟨u, r, o, st _ ho, hd⟩⟩
    · have e : (if hb : b ∈ cellsIn X.env.cells ns then some (HO.frz (Classical.choose (key b hb)).1 (CellV b (Classical.choose (key b hb)).2)) else H b) = some o := e
      rw [dif_neg hb] at e
      have no : ∀ c o', H c = some o' → c ∉ cellsIn X.env.cells ns := fun c o' q z => by
        obtain ⟨y, hy, hl⟩ := mem_cellsIn.mp z
        rw [I.freeC y c hl] at q
        cases q
      exact (I.hok b o e).stay (fun _ _ _ q => q) (fun c q => (dif_neg (no c _ q)).trans q) (fun c xs q => (dif_neg (no c _ q)).trans q)
theorem env_show (I : Inv X pins σ H s) {ns : List Str} {HP : Hp} (hfn : ∀ y ∈ ns, X.fn y = true) (S : Shows X.env.cells X.N ns σ H HP) (hok : HOk X.prog X.w HP s.heap) : Env0 X.prog X.w X.K X.mg X.base X.A X.stack s HP := by
  have e0 := I.env0
  have big : ∀ c ∈ cellsIn X.env.cells ns, X.s_0.heap.objs.size ≤ c := fun c hc => by
    obtain ⟨y, hy, hl⟩ := mem_cellsIn.mp hc
    exact I.ok.cab y c (hfn y hy) hl
  refine ⟨e0.frames, e0.mod, fun b o e => ⟨(e0.bs b o e).1, ?_⟩, e0.bsz, e0.funs, fun b hb => ?_, hok, e0.bare⟩
  · have hb : b ∉ cellsIn X.env.cells ns := fun z => absurd (Nat.lt_of_lt_of_le (Heap.lt_size e) (Nat.le_trans I.ok.bsz (big b z))) (Nat.lt_irrefl _)
    rw [S.out b hb]
    exact (e0.bs b o e).2
  · have hb' : b ∉ cellsIn X.env.cells ns := fun z => by
      obtain ⟨y, hy, hl⟩ := mem_cellsIn.mp z
      rcases List.mem_cons.mp (I.stkSub _ hb) with e | e
      · exact I.cne y b hl e
      · obtain ⟨_, o, ho, _⟩ := I.ok.funs.mem e
        exact absurd (Nat.lt_of_lt_of_le (Heap.lt_size ho) (big b z)) (Nat.lt_irrefl _)
    rw [S.out b hb']
    exact e0.frf b hb
end
theorem cells_at {cells : List (Str × Addr)} {N ns : List Str} {σ σ0 : L2.St} {H HP : Hp} (S : Shows cells N ns σ H HP) {F : Clo} (hcl : F.cl = cloFrom cells F.scope.names []) (hf : ∀ y ∈ F.scope.names, y.2 = .free → y.1 ∈ ns) (len : σ0.length = N.length) (hσ : ∀ (i : Nat) (v : V), σ0[i]? = some (some v) → σ[i]? = some (some v)) : CellsAt HP F N σ0 := by
  have cm : ∀ {y c}, F.cl.lookup y = some c → cells.lookup y = some c ∧ y ∈ ns := fun {y c} e => by
    rw [hcl] at e
    rcases cloFrom_mem (PySem.mem_of_lookup e) with hm | ⟨h1, h2⟩
    · cases hm
    · have hy := hf _ h1 rfl
      obtain ⟨c1, hc⟩ := S.hasc _ hy
      have e2 : c = c1 := by rw [h2, hc] <;> rfl
      rw [e2]
      exact ⟨hc, hy⟩
  refine ⟨len, fun y hy e => ?_, fun x y c e1 e2 => S.inj x y c (cm e1).1 (cm e2).1, fun i x v c e1 e2 e3 => S.val x i v c (cm e3).2 e1 (hσ i v e2) (cm e3).1, fun c hc => ?_⟩
  · rw [hcl]
    have hy' : (y.1, NameKind.free) ∈ F.scope.names := by rw [← e]; exact hy
    exact mem_lookup (cloFrom_has (cells := cells) (acc := []) hy')
  · obtain ⟨p, hp, rfl⟩ := List.mem_map.mp hc
    rw [hcl] at hp
    rcases cloFrom_mem hp with hm | ⟨h1, h2⟩
    · cases hm
    · have hy := hf _ h1 rfl
      obtain ⟨c1, hc1⟩ := S.hasc _ hy
      have e2 : p.2 = c1 := by rw [h2, hc1] <;> rfl
      refine S.frz p.2 (mem_cellsIn.mpr ⟨_, hy, ?_⟩)
      rw [e2]
      exact hc1
theorem fnAt_ext {H H' : Hp} {f : Addr} {F : Clo} (h : FnAt H f F) (x : ExtN H H') : FnAt H' f F := by
  obtain ⟨xs, D⟩ := h.dfl
  refine ⟨x _ _ h.fn (fun ps z => by unfold FnV at z; cases z), x _ _ h.code (fun ps z => by unfold CodeO at z; cases z), xs, ?_⟩
  cases D with
  | none e b => exact .none e b
  | one e h b l => exact .one e (x _ _ h (fun ps z => by cases z)) b l
def freeB (scope sc : Scope) : Bool := scope.names.all fun y => !decide (y.2 = .free) || decide (sc.names.lookup y.1 = some .cell)
theorem free_by {scope sc : Scope} (h : freeB scope sc = true) : ∀ y ∈ scope.names, y.2 = .free → sc.names.lookup y.1 = some .cell ∨ sc.names.lookup y.1 = some .free := fun y hy e => by
  have h1 := List.all_eq_true.mp h y hy
  rw [decide_eq_true e] at h1
  simp only [Bool.not_true, Bool.false_or, decide_eq_true_eq] at h1
  exact .inl h1
def insB (scope : Scope) (ns : List Str) : Bool := scope.names.all fun y => !decide (y.2 = .free) || decide (y.1 ∈ ns)
theorem ins_by {scope : Scope} {ns : List Str} (h : insB scope ns = true) : ∀ y ∈ scope.names, y.2 = .free → y.1 ∈ ns := fun y hy e => by
  have h1 := List.all_eq_true.mp h y hy
  rw [decide_eq_true e] at h1
  simpa using h1
end CloX

set_option Elab.async false
set_option linter.all false
set_option maxRecDepth 100000
set_option maxHeartbeats 1000000
namespace CloX
open PySem PySem.Spec PyProof.Rows L2 LamX
def tCallS (cells : List (Str × Addr)) (N ns : List Str) (sp : Sp) (t : TA) : TE := fun σ H Q => t σ H fun vs H1 => (∀ y ∈ ns, ∃ (i : Nat) (v : V), N[i]? = some y ∧ σ[i]? = some (some v)) ∧ ∀ HP, Shows cells N ns σ H1 HP → sp vs HP (fun v H' => Q v (dropC (cellsIn cells ns) H')) C8.E0
section
variable {X : Cx} {x : Str} {f : Addr} {k : Nat} {sp : Sp} {e : Expr} {es : List Expr} {t : TA} {p pos : Pos}
theorem pe_callS (ns : List Str) (F : FnR X.prog X.w X.K X.mg X.base CX0 k f sp) (hr : Room k X.A) (hg : Gl X x) (hm : X.mg x = some (.ref f)) (hk : PySem.W.keepIn X.K (.ref f) = true)
    (nd : X.N.Nodup) (hc : ∀ y ∈ ns, X.env.scope.names.lookup y = some .cell ∨ X.env.scope.names.lookup y = some .free) (hfn : ∀ y ∈ ns, X.fn y = true)
    (ha : PA X (e :: es) t) (hdb : (x == ("__debug__" : Str)) = false := by decide) (he : starEach (e :: es) X.env = (false, eval e X.env) :: starEach es X.env := by rfl) (hpl : (backTo pos (starEach es X.env)).any (·.1) = false := by rfl) :
    PE X (.Call (.Name x p) (e :: es) [] pos) (tCallS X.env.cells X.N ns sp t) := by
  refine ⟨fun pins s σ H Q I h => ?_⟩
  refine wpAny_Call_Name_kw (ld_glob I hg hm ?_ hdb)
  refine PySem.W.callWith_K (h₀ := X.base) I.ok.mod.kin hk (thn (ha.run pos pins s σ H _ I h) fun us s1 ⟨vs, H1, I1, r, q⟩ => ⟨I1.kIn, ?_⟩) he hpl
  obtain ⟨q1, q2⟩ := q
  obtain ⟨HP, S, hok⟩ := show_ok I1 nd hc q1
  have e0 := env_show I1 hfn S hok
  refine wpAny_call (codeAny_mono (F X.A X.stack s1 HP us vs _ C8.E0 hr e0 r (q2 HP S)) fun r s' hq => ?_)
  cases r with
  | error e => exact (show False from hq).elim
  | ok fl =>
    cases fl with
    | ret u =>
      have hh := ce_hide e0 S.frz hq
      rw [S.drop] at hh
      exact I1.after hh
    | next => exact False.elim hq
    | brk => exact False.elim hq
    | cont => exact False.elim hq
end
abbrev TR := L2.St → Hp → (V → L2.St → Hp → Prop) → Prop
structure PSsR (X : Cx) (st : List Stmt) (t : TR) : Prop where
  run : ∀ (pins : List (Addr × Obj)) (s : Shared) (σ : L2.St) (H : Hp) (R : V → L2.St → Hp → Prop), Inv X pins σ H s → t σ H R → wpAny (model X.prog X.w) X.A (execs st X.env) (fun fl s' => ∃ u v σ' H', fl = .ret u ∧ Inv X pins σ' H' s' ∧ RelV v u ∧ R v σ' H') X.xe s
section
variable {X : Cx} {st : Stmt} {rest : List Stmt} {t : TS} {u : TR} {e : Expr} {te : TE} {pos : Pos}
theorem psr_cons (h1 : PS X st t) (h2 : PSsR X rest u) : PSsR X (st :: rest) (fun σ H R => t { nx := fun σ' H' => u σ' H' R, rt := fun _ _ => False, bk := fun _ _ => False, ct := fun _ _ => False } σ H) := by
  refine ⟨fun pins s σ H R I h => ?_⟩
  refine wpAny_execs_cons (thn (h1.run pins s σ H _ I h) fun f s1 q => ?_)
  cases f with
  | next =>
    obtain ⟨σ', H', I', q⟩ := q
    exact h2.run pins s1 σ' H' R I' q
  | ret v =>
    obtain ⟨_, _, _, _, _, q⟩ := q
    exact q.elim
  | brk =>
    obtain ⟨_, _, _, q⟩ := q
    exact q.elim
  | cont =>
    obtain ⟨_, _, _, q⟩ := q
    exact q.elim
theorem psr_ret (he : PE X e te) : PSsR X [.Return (some e) pos] (fun σ H R => te σ H fun v H' => R v σ H') := by
  refine ⟨fun pins s σ H R I h => ?_⟩
  refine wpAny_execs_cons (wpAny_Return_some (thn (he.run pins s σ H _ I h) fun v s1 ⟨x, H1, I1, r1, q1⟩ => ?_))
  exact ⟨v, x, σ, H1, rfl, I1, r1, q1⟩
end
theorem makes {P : Program} {w : World} {K : PySem.W.Frag} {mg : Str → Option Value} {base : Heap} {x qual : Str} {params : Arguments} {body : List Stmt} {scope : Scope} {f : Addr} {fd : FuncData} {N ps : List Str} {k : Nat} {sp : Sp} {p : He.Defn} (ns : List Str)
    (F : FunD K x qual params body scope [] [] f fd) (hf : f = He.fAd K p) (S : FnScope N ps scope) (hns : ∀ y ∈ ns, scope.names.lookup y = some .cell)
    (hb : ∀ (kV doc pm : Value) (an : Option Addr) (cdv ct : Value) (us : List Value), us.length = ps.length → bindArgs (PySem.W.fnOf x qual params body scope .none kV doc pm an cdv ct) ⟨us, []⟩ = pure (ps.zip us))
    (len : ∀ vs H Q E, sp vs H Q E → vs.length = ps.length)
    (hbody : ∀ (A : Around) (outer : List Env) (s : Shared) (H : Hp) (vs : List V) (Q : VK) (E : XK), Room k (A.deeper (envOfC qual scope s.heap.objs.size f (.ref (He.codeOf K p)))) → sp vs H Q E →
      ∃ t, PSsR (cxOf CX0 P w K mg base N qual scope f (.ref (He.codeOf K p)) A outer s H E) body t ∧ t (start N vs) H (fun v σ' H' => (∀ y ∈ ns, ∃ (i : Nat) (v : V), N[i]? = some y ∧ σ'[i]? = some (some v)) ∧ ∀ H'', Shows (cellsFrom (s.heap.objs.size + 1) scope.names []) N ns σ' H' H'' → Q v H'')) : FnR P w K mg base CX0 (k + 1) f sp := by
  have key : FnOk P w K mg base CX0 (k + 1) f fd ps sp := by
    obtain ⟨oc, od, dV, kV, doc, pm, an, cdv, ct, osl, e, lk, hcd, _, _⟩ := F.ex
    subst e
    obtain ⟨c, rfl⟩ := He.codeIn_ref hcd
    have ec : He.codeOf K p = c := He.codeOf_eq (by rw [← hf]; exact lk) rfl
    refine ⟨len, fun A outer s H args us vs Q E hr e0 hb' r hsp => ?_⟩
    have hl := len _ _ _ _ hsp
    have KX : K.In s.heap := e0.mod.kin.keeps fun b o e => (e0.bs b o e).1
    have lim : s.heap.NoLimit := e0.mod.nolimit.keeps fun b o e => (e0.bs b o e).1
    have hkind : ∀ y ∈ ps.zip us, scope.names.lookup y.1 = some .local ∨ (scope.names.lookup y.1 = some .cell ∧ ((cellsFrom (s.heap.objs.size + 1) scope.names []).lookup y.1).isSome = true) := fun ⟨n, v⟩ hy => by
      rcases S.par n (List.of_mem_zip hy).1 with q | q
      · exact .inl q
      · exact .inr ⟨q, PySem.W.cellsFrom_some _ _ _ (.inl q)⟩
    refine codeAny_call_function hr.depth (KX _ _ lk) rfl S.co S.gen rfl (PySem.W.codeRec_of KX hcd) (hb' _ _ _ _ ?_)
    refine wpAny_newFunctionEnv_cells S.kind hkind fun env he s1 x => ?_
    subst he
    refine ⟨lim.keeps x.toInCall.keep, codeAny_func ?_⟩
    have hr' := hr.deeper (envOfC qual scope s.heap.objs.size f (.ref c))
    rw [← ec] at hr' x ⊢
    obtain ⟨t, ht, hq⟩ := hbody A outer s H vs Q E hr' hsp
    have I : Inv (cxOf CX0 P w K mg base N qual scope f (.ref (He.codeOf K p)) A outer s H E) [] (start N vs) H s1 := inv_start S hr.hd e0 hl r x
    refine wpAny_mono (ht.run [] s1 (start N vs) H _ I hq) (fun fl s' hs => ?_) fun e s' hs => hs
    obtain ⟨u, v, σ', H', rfl, J, rv, q1, q2⟩ := hs
    obtain ⟨HN, Sh, hokN⟩ := show_ok J S.nd (fun y hy => .inl (hns y hy)) q1
    have un : Un (frs outer) [] H HN s.heap s'.heap := un_show (P := P) (w := w) (C := cellsIn (cellsFrom (s.heap.objs.size + 1) scope.names []) ns) J.base Sh.out (fun c hc => by
      obtain ⟨y, hy, hl⟩ := mem_cellsIn.mp hc
      exact J.ok.cab y c rfl hl) e0.hok
    exact ⟨v, HN, J.os, J.bare, un, hokN, rv, q2 HN Sh⟩
  exact (key.raw (F.bindsN hb) .nil).imp (fun vs H Q E h => by rw [List.append_nil]; exact h)
end CloX

set_option Elab.async false
set_option linter.all false
set_option maxRecDepth 100000
set_option maxHeartbeats 1000000
namespace CloX
open PySem PySem.Spec PyProof.Rows L2 LamX
structure CloB (P : Program) (w : World) (K : PySem.W.Frag) (mg : Str → Option Value) (base : Heap) (k : Nat) (F : Clo) where
  N : List Str
  σ : L2.St
  tb : XK → TE
  sc : CloS N F.scope
  rule : ∀ (A : Around) (outer : List Env) (s : Shared) (H : Hp) (E : XK) (f : Addr), Room k (A.deeper (cloEnv F s.heap.objs.size f)) → PE (cloCx P w K mg base N A outer s H E F f) F.body (tb E)
abbrev Clo.C (F : Clo) : List Addr := F.cl.map (·.2)
def tCloB {P : Program} {w : World} {K : PySem.W.Frag} {mg : Str → Option Value} {base : Heap} {k : Nat} {F : Clo} (B : CloB P w K mg base k F) (f : Addr) (E : XK) (HZ : Hp) (Q : VK) : Prop :=
  FnAt HZ f F ∧ CellsAt HZ F B.N B.σ ∧ B.tb (fun cls d H' => (∀ c ∈ F.C, H' c = none) → E cls d (backC F.C HZ H')) B.σ (dropC F.C HZ) (fun v H' => (∀ c ∈ F.C, H' c = none) → Q v (backC F.C HZ H'))
section
variable {Z : Cx} {k i : Nat} {a : Str} {p1 p2 : Pos} {W : WX} {E : XK} {F : Clo}
theorem pe_cloact (B : CloB Z.prog Z.w Z.K Z.mg Z.base k F) {f : Addr} (tk : Takes Z W) (hW : ∀ cls d σ' H', E cls d H' → W cls d σ' H') (hr : Room (k + 1) Z.A) (hN : Z.N[i]? = some a) (hv : Vis Z.env.scope a)
    (hd : (a == ("__debug__" : Str)) = false := by decide) (hcd : (a == ("__classdict__" : Str)) = false := by decide) :
    PE Z (.Call (.Name a p1) [] [] p2) (fun σZ HZ Q => σZ[i]? = some (some (.ref f)) ∧ tCloB B f E HZ Q) := by
  refine ⟨fun pinsZ sZ σZ HZ Q IZ h => ?_⟩
  obtain ⟨hs, C, V, ht⟩ := h
  refine wpAny_Call_Name_kw (thn ((pe_var (pos := p1) (i := i) hN hv hd hcd).run pinsZ sZ σZ HZ (fun v H1 => v = .ref f ∧ H1 = HZ) IZ ⟨.ref f, hs, rfl, rfl⟩) fun u s1 ⟨v, H1, I1, r1, q1⟩ => ?_)
  obtain ⟨ev, eH⟩ := q1
  subst ev
  rw [eH] at I1
  obtain rfl : u = Value.ref f := r1
  obtain ⟨⟨doc, pm, ctv, of1⟩, _, _⟩ := I1.hok f _ C.fn
  refine PySem.W.callWith_F0 ⟨_, _, _, _, of1⟩ ?_
  have rc := clo_run (Q := Q) (E := E) I1.env0 hr.hd hr C V B.sc (fun A outer s H hr' => B.rule A outer s H (fun cls d H' => (∀ c ∈ F.C, H' c = none) → E cls d (backC F.C HZ H')) f hr') ht
  have hx : Passes (L2.CX Z.prog Z.w) Z E := passes_call tk hW
  refine wpAny_call (codeAny_mono rc fun r s' hq => ?_)
  cases r with
  | error e => exact hx pinsZ σZ HZ s1 e s' I1 hq
  | ok fl =>
    cases fl with
    | ret u => exact I1.after hq
    | next => exact False.elim hq
    | brk => exact False.elim hq
    | cont => exact False.elim hq
end
end CloX

set_option Elab.async false
set_option linter.all false
set_option maxRecDepth 100000
set_option maxHeartbeats 2000000
namespace SB
open PySem PySem.Spec PyProof.Rows L2
def oV : Option Int → V
  | none => .non
  | some i => .int i
def oA : Option Addr → V
  | none => .non
  | some a => .ref a
structure Wk where
  begin : Int
  goal : Int
  many : Int
  block : Int
  greed : Str
  mark : Option Int
  follow : Option Int
  on : Bool
  laid : Int
  hand : Option Int
structure Wo where
  begin : Int
  goal : Int
  many : Int
  block : Int
  greed : Str
  mark : Option Int
  follow : Option Int
  going : Option Addr
def woF (k : Wo) : List (Str × V) := [("begin", .int k.begin), ("goal", .int k.goal), ("many", .int k.many), ("block", .int k.block), ("greed", .str k.greed), ("mark", oV k.mark), ("follow", oV k.follow), ("going", oA k.going)]
abbrev cWork (K : PySem.W.Frag) : Addr := He.ga K "Work"
theorem wo_begin (k : Wo) : (woF k).lookup ("begin" : Str) = some (V.int k.begin) := by kernel_rfl
theorem wo_put_begin (k : Wo) (x : Int) : putF ("begin" : Str) (V.int x) (woF k) = woF { k with begin := x } := by kernel_rfl
theorem wo_goal (k : Wo) : (woF k).lookup ("goal" : Str) = some (V.int k.goal) := by kernel_rfl
theorem wo_put_goal (k : Wo) (x : Int) : putF ("goal" : Str) (V.int x) (woF k) = woF { k with goal := x } := by kernel_rfl
theorem wo_many (k : Wo) : (woF k).lookup ("many" : Str) = some (V.int k.many) := by kernel_rfl
theorem wo_put_many (k : Wo) (x : Int) : putF ("many" : Str) (V.int x) (woF k) = woF { k with many := x } := by kernel_rfl
theorem wo_block (k : Wo) : (woF k).lookup ("block" : Str) = some (V.int k.block) := by kernel_rfl
theorem wo_put_block (k : Wo) (x : Int) : putF ("block" : Str) (V.int x) (woF k) = woF { k with block := x } := by kernel_rfl
theorem wo_greed (k : Wo) : (woF k).lookup ("greed" : Str) = some (V.str k.greed) := by kernel_rfl
theorem wo_put_greed (k : Wo) (x : Str) : putF ("greed" : Str) (V.str x) (woF k) = woF { k with greed := x } := by kernel_rfl
theorem wo_mark (k : Wo) : (woF k).lookup ("mark" : Str) = some (oV k.mark) := by kernel_rfl
theorem wo_put_mark (k : Wo) (x : Option Int) : putF ("mark" : Str) (oV x) (woF k) = woF { k with mark := x } := by kernel_rfl
theorem wo_follow (k : Wo) : (woF k).lookup ("follow" : Str) = some (oV k.follow) := by kernel_rfl
theorem wo_put_follow (k : Wo) (x : Option Int) : putF ("follow" : Str) (oV x) (woF k) = woF { k with follow := x } := by kernel_rfl
theorem wo_going (k : Wo) : (woF k).lookup ("going" : Str) = some (oA k.going) := by kernel_rfl
theorem wo_put_going (k : Wo) (x : Option Addr) : putF ("going" : Str) (oA x) (woF k) = woF { k with going := x } := by kernel_rfl
theorem wo_no_held_off (k : Wo) : (woF k).lookup ("held_off" : Str) = none := by kernel_rfl
theorem wo_no_may_take (k : Wo) : (woF k).lookup ("may_take" : Str) = none := by kernel_rfl
theorem wo_no_move (k : Wo) : (woF k).lookup ("move" : Str) = none := by kernel_rfl
theorem wo_no_fetch (k : Wo) : (woF k).lookup ("fetch" : Str) = none := by kernel_rfl
theorem wo_no_lay (k : Wo) : (woF k).lookup ("lay" : Str) = none := by kernel_rfl
theorem wo_len (k : Wo) : (woF k).length < 1000 := by show 8 < 1000; decide
theorem wo_put_goingN (k : Wo) : putF ("going" : Str) V.non (woF k) = woF { k with going := none } := by kernel_rfl
theorem wo_put_goingS (k : Wo) (x : Addr) : putF ("going" : Str) (V.ref x) (woF k) = woF { k with going := some x } := by kernel_rfl
theorem wo_made (begin : Int) (goal : Int) (many : Int) (block : Int) (greed : Str) (mark : Option Int) (follow : Option Int) (going : Option Addr) : putF ("going" : Str) (oA going) (putF ("follow" : Str) (oV follow) (putF ("mark" : Str) (oV mark) (putF ("greed" : Str) (V.str greed) (putF ("block" : Str) (V.int block) (putF ("many" : Str) (V.int many) (putF ("goal" : Str) (V.int goal) (putF ("begin" : Str) (V.int begin) (([] : List (Str × V)))))))))) = woF ⟨begin, goal, many, block, greed, mark, follow, going⟩ := by kernel_rfl
structure Gg where
  number : Int
  hand : Option Int
  puts : Addr
def ggF (k : Gg) : List (Str × V) := [("number", .int k.number), ("hand", oV k.hand), ("puts", .ref k.puts)]
abbrev cGoing (K : PySem.W.Frag) : Addr := He.ga K "Going"
theorem gg_number (k : Gg) : (ggF k).lookup ("number" : Str) = some (V.int k.number) := by kernel_rfl
theorem gg_put_number (k : Gg) (x : Int) : putF ("number" : Str) (V.int x) (ggF k) = ggF { k with number := x } := by kernel_rfl
theorem gg_hand (k : Gg) : (ggF k).lookup ("hand" : Str) = some (oV k.hand) := by kernel_rfl
theorem gg_put_hand (k : Gg) (x : Option Int) : putF ("hand" : Str) (oV x) (ggF k) = ggF { k with hand := x } := by kernel_rfl
theorem gg_puts (k : Gg) : (ggF k).lookup ("puts" : Str) = some (V.ref k.puts) := by kernel_rfl
theorem gg_put_puts (k : Gg) (x : Addr) : putF ("puts" : Str) (V.ref x) (ggF k) = ggF { k with puts := x } := by kernel_rfl
theorem gg_len (k : Gg) : (ggF k).length < 1000 := by show 3 < 1000; decide
theorem gg_put_handN (k : Gg) : putF ("hand" : Str) V.non (ggF k) = ggF { k with hand := none } := by kernel_rfl
theorem gg_put_handS (k : Gg) (x : Int) : putF ("hand" : Str) (V.int x) (ggF k) = ggF { k with hand := some x } := by kernel_rfl
theorem gg_made (number : Int) (hand : Option Int) (puts : Addr) : putF ("puts" : Str) (V.ref puts) (putF ("hand" : Str) (oV hand) (putF ("number" : Str) (V.int number) (([] : List (Str × V))))) = ggF ⟨number, hand, puts⟩ := by kernel_rfl
structure Dv where
  works : Addr
  took : Bool
  begun : Addr
def dvF (k : Dv) : List (Str × V) := [("works", .ref k.works), ("took", .bl k.took), ("begun", .ref k.begun)]
abbrev cDevice (K : PySem.W.Frag) : Addr := He.ga K "Device"
theorem dv_works (k : Dv) : (dvF k).lookup ("works" : Str) = some (V.ref k.works) := by kernel_rfl
theorem dv_put_works (k : Dv) (x : Addr) : putF ("works" : Str) (V.ref x) (dvF k) = dvF { k with works := x } := by kernel_rfl
theorem dv_took (k : Dv) : (dvF k).lookup ("took" : Str) = some (V.bl k.took) := by kernel_rfl
theorem dv_put_took (k : Dv) (x : Bool) : putF ("took" : Str) (V.bl x) (dvF k) = dvF { k with took := x } := by kernel_rfl
theorem dv_begun (k : Dv) : (dvF k).lookup ("begun" : Str) = some (V.ref k.begun) := by kernel_rfl
theorem dv_put_begun (k : Dv) (x : Addr) : putF ("begun" : Str) (V.ref x) (dvF k) = dvF { k with begun := x } := by kernel_rfl
theorem dv_no_is_on (k : Dv) : (dvF k).lookup ("is_on" : Str) = none := by kernel_rfl
theorem dv_no_wake (k : Dv) : (dvF k).lookup ("wake" : Str) = none := by kernel_rfl
theorem dv_no_start (k : Dv) : (dvF k).lookup ("start" : Str) = none := by kernel_rfl
theorem dv_no_move (k : Dv) : (dvF k).lookup ("move" : Str) = none := by kernel_rfl
theorem dv_no_taker (k : Dv) : (dvF k).lookup ("taker" : Str) = none := by kernel_rfl
theorem dv_no_numbers_on (k : Dv) : (dvF k).lookup ("numbers_on" : Str) = none := by kernel_rfl
theorem dv_no_shown_on (k : Dv) : (dvF k).lookup ("shown_on" : Str) = none := by kernel_rfl
theorem dv_len (k : Dv) : (dvF k).length < 1000 := by show 3 < 1000; decide
theorem dv_made (works : Addr) (took : Bool) (begun : Addr) : putF ("begun" : Str) (V.ref begun) (putF ("took" : Str) (V.bl took) (putF ("works" : Str) (V.ref works) (([] : List (Str × V))))) = dvF ⟨works, took, begun⟩ := by kernel_rfl
structure Mc where
  program : Addr
  cells : Addr
  marks : Addr
  row : Int
  spent : Int
def mcF (k : Mc) : List (Str × V) := [("program", .ref k.program), ("cells", .ref k.cells), ("marks", .ref k.marks), ("row", .int k.row), ("spent", .int k.spent)]
abbrev cMachine (K : PySem.W.Frag) : Addr := He.ga K "Machine"
theorem mc_program (k : Mc) : (mcF k).lookup ("program" : Str) = some (V.ref k.program) := by kernel_rfl
theorem mc_put_program (k : Mc) (x : Addr) : putF ("program" : Str) (V.ref x) (mcF k) = mcF { k with program := x } := by kernel_rfl
theorem mc_cells (k : Mc) : (mcF k).lookup ("cells" : Str) = some (V.ref k.cells) := by kernel_rfl
theorem mc_put_cells (k : Mc) (x : Addr) : putF ("cells" : Str) (V.ref x) (mcF k) = mcF { k with cells := x } := by kernel_rfl
theorem mc_marks (k : Mc) : (mcF k).lookup ("marks" : Str) = some (V.ref k.marks) := by kernel_rfl
theorem mc_put_marks (k : Mc) (x : Addr) : putF ("marks" : Str) (V.ref x) (mcF k) = mcF { k with marks := x } := by kernel_rfl
theorem mc_row (k : Mc) : (mcF k).lookup ("row" : Str) = some (V.int k.row) := by kernel_rfl
theorem mc_put_row (k : Mc) (x : Int) : putF ("row" : Str) (V.int x) (mcF k) = mcF { k with row := x } := by kernel_rfl
theorem mc_spent (k : Mc) : (mcF k).lookup ("spent" : Str) = some (V.int k.spent) := by kernel_rfl
theorem mc_put_spent (k : Mc) (x : Int) : putF ("spent" : Str) (V.int x) (mcF k) = mcF { k with spent := x } := by kernel_rfl
theorem mc_no_ended (k : Mc) : (mcF k).lookup ("ended" : Str) = none := by kernel_rfl
theorem mc_no_wanted (k : Mc) : (mcF k).lookup ("wanted" : Str) = none := by kernel_rfl
theorem mc_no_step (k : Mc) : (mcF k).lookup ("step" : Str) = none := by kernel_rfl
theorem mc_no_use_word (k : Mc) : (mcF k).lookup ("use_word" : Str) = none := by kernel_rfl
theorem mc_no_finish (k : Mc) : (mcF k).lookup ("finish" : Str) = none := by kernel_rfl
theorem mc_no_reckoned (k : Mc) : (mcF k).lookup ("reckoned" : Str) = none := by kernel_rfl
theorem mc_len (k : Mc) : (mcF k).length < 1000 := by show 5 < 1000; decide
theorem mc_made (program : Addr) (cells : Addr) (marks : Addr) (row : Int) (spent : Int) : putF ("spent" : Str) (V.int spent) (putF ("row" : Str) (V.int row) (putF ("marks" : Str) (V.ref marks) (putF ("cells" : Str) (V.ref cells) (putF ("program" : Str) (V.ref program) (([] : List (Str × V))))))) = mcF ⟨program, cells, marks, row, spent⟩ := by kernel_rfl
structure Fl where
  machine : Addr
  device : Addr
  words : Addr
  asks : Addr
  beats : Int
def flF (k : Fl) : List (Str × V) := [("machine", .ref k.machine), ("device", .ref k.device), ("words", .ref k.words), ("asks", .ref k.asks), ("beats", .int k.beats)]
abbrev cFloor (K : PySem.W.Frag) : Addr := He.ga K "Floor"
theorem fl_machine (k : Fl) : (flF k).lookup ("machine" : Str) = some (V.ref k.machine) := by kernel_rfl
theorem fl_put_machine (k : Fl) (x : Addr) : putF ("machine" : Str) (V.ref x) (flF k) = flF { k with machine := x } := by kernel_rfl
theorem fl_device (k : Fl) : (flF k).lookup ("device" : Str) = some (V.ref k.device) := by kernel_rfl
theorem fl_put_device (k : Fl) (x : Addr) : putF ("device" : Str) (V.ref x) (flF k) = flF { k with device := x } := by kernel_rfl
theorem fl_words (k : Fl) : (flF k).lookup ("words" : Str) = some (V.ref k.words) := by kernel_rfl
theorem fl_put_words (k : Fl) (x : Addr) : putF ("words" : Str) (V.ref x) (flF k) = flF { k with words := x } := by kernel_rfl
theorem fl_asks (k : Fl) : (flF k).lookup ("asks" : Str) = some (V.ref k.asks) := by kernel_rfl
theorem fl_put_asks (k : Fl) (x : Addr) : putF ("asks" : Str) (V.ref x) (flF k) = flF { k with asks := x } := by kernel_rfl
theorem fl_beats (k : Fl) : (flF k).lookup ("beats" : Str) = some (V.int k.beats) := by kernel_rfl
theorem fl_put_beats (k : Fl) (x : Int) : putF ("beats" : Str) (V.int x) (flF k) = flF { k with beats := x } := by kernel_rfl
theorem fl_no_pass_beat (k : Fl) : (flF k).lookup ("pass_beat" : Str) = none := by kernel_rfl
theorem fl_no_seen (k : Fl) : (flF k).lookup ("seen" : Str) = none := by kernel_rfl
theorem fl_len (k : Fl) : (flF k).length < 1000 := by show 5 < 1000; decide
theorem fl_made (machine : Addr) (device : Addr) (words : Addr) (asks : Addr) (beats : Int) : putF ("beats" : Str) (V.int beats) (putF ("asks" : Str) (V.ref asks) (putF ("words" : Str) (V.ref words) (putF ("device" : Str) (V.ref device) (putF ("machine" : Str) (V.ref machine) (([] : List (Str × V))))))) = flF ⟨machine, device, words, asks, beats⟩ := by kernel_rfl
structure Hl where
  floor : Addr
def hlF (k : Hl) : List (Str × V) := [("floor", .ref k.floor)]
abbrev cHall (K : PySem.W.Frag) : Addr := He.ga K "Hall"
theorem hl_floor (k : Hl) : (hlF k).lookup ("floor" : Str) = some (V.ref k.floor) := by kernel_rfl
theorem hl_put_floor (k : Hl) (x : Addr) : putF ("floor" : Str) (V.ref x) (hlF k) = hlF { k with floor := x } := by kernel_rfl
theorem hl_no_beat (k : Hl) : (hlF k).lookup ("beat" : Str) = none := by kernel_rfl
theorem hl_no_shown (k : Hl) : (hlF k).lookup ("shown" : Str) = none := by kernel_rfl
theorem hl_len (k : Hl) : (hlF k).length < 1000 := by show 1 < 1000; decide
theorem hl_made (floor : Addr) : putF ("floor" : Str) (V.ref floor) (([] : List (Str × V))) = hlF ⟨floor⟩ := by kernel_rfl
structure Wa where
  floor : Addr
  dones : Addr
  on_behind : Addr
  pairs : Addr
  first_get : Option Addr
  goings : Addr
def waF (k : Wa) : List (Str × V) := [("floor", .ref k.floor), ("dones", .ref k.dones), ("on_behind", .ref k.on_behind), ("pairs", .ref k.pairs), ("first_get", oA k.first_get), ("goings", .ref k.goings)]
abbrev cWatch (K : PySem.W.Frag) : Addr := He.ga K "Watch"
theorem wa_floor (k : Wa) : (waF k).lookup ("floor" : Str) = some (V.ref k.floor) := by kernel_rfl
theorem wa_put_floor (k : Wa) (x : Addr) : putF ("floor" : Str) (V.ref x) (waF k) = waF { k with floor := x } := by kernel_rfl
theorem wa_dones (k : Wa) : (waF k).lookup ("dones" : Str) = some (V.ref k.dones) := by kernel_rfl
theorem wa_put_dones (k : Wa) (x : Addr) : putF ("dones" : Str) (V.ref x) (waF k) = waF { k with dones := x } := by kernel_rfl
theorem wa_on_behind (k : Wa) : (waF k).lookup ("on_behind" : Str) = some (V.ref k.on_behind) := by kernel_rfl
theorem wa_put_on_behind (k : Wa) (x : Addr) : putF ("on_behind" : Str) (V.ref x) (waF k) = waF { k with on_behind := x } := by kernel_rfl
theorem wa_pairs (k : Wa) : (waF k).lookup ("pairs" : Str) = some (V.ref k.pairs) := by kernel_rfl
theorem wa_put_pairs (k : Wa) (x : Addr) : putF ("pairs" : Str) (V.ref x) (waF k) = waF { k with pairs := x } := by kernel_rfl
theorem wa_first_get (k : Wa) : (waF k).lookup ("first_get" : Str) = some (oA k.first_get) := by kernel_rfl
theorem wa_put_first_get (k : Wa) (x : Option Addr) : putF ("first_get" : Str) (oA x) (waF k) = waF { k with first_get := x } := by kernel_rfl
theorem wa_goings (k : Wa) : (waF k).lookup ("goings" : Str) = some (V.ref k.goings) := by kernel_rfl
theorem wa_put_goings (k : Wa) (x : Addr) : putF ("goings" : Str) (V.ref x) (waF k) = waF { k with goings := x } := by kernel_rfl
theorem wa_no_run (k : Wa) : (waF k).lookup ("run" : Str) = none := by kernel_rfl
theorem wa_no_run_till (k : Wa) : (waF k).lookup ("run_till" : Str) = none := by kernel_rfl
theorem wa_no_step (k : Wa) : (waF k).lookup ("step" : Str) = none := by kernel_rfl
theorem wa_no_note_get (k : Wa) : (waF k).lookup ("note_get" : Str) = none := by kernel_rfl
theorem wa_len (k : Wa) : (waF k).length < 1000 := by show 6 < 1000; decide
theorem wa_put_first_getS (k : Wa) (x : Addr) : putF ("first_get" : Str) (V.ref x) (waF k) = waF { k with first_get := some x } := by kernel_rfl
theorem wa_made (floor : Addr) (dones : Addr) (on_behind : Addr) (pairs : Addr) (first_get : Option Addr) (goings : Addr) : putF ("goings" : Str) (V.ref goings) (putF ("first_get" : Str) (oA first_get) (putF ("pairs" : Str) (V.ref pairs) (putF ("on_behind" : Str) (V.ref on_behind) (putF ("dones" : Str) (V.ref dones) (putF ("floor" : Str) (V.ref floor) (([] : List (Str × V)))))))) = waF ⟨floor, dones, on_behind, pairs, first_get, goings⟩ := by kernel_rfl
end SB

set_option Elab.async false
set_option linter.all false
set_option maxRecDepth 100000
set_option maxHeartbeats 2000000
namespace SB
open PySem L2
section
variable {K : PySem.W.Frag} {σ : St} {H H1 : Hp} {Q : VK} {a C dx : Addr} {fs : List (Str × V)} {f : Str} {v y : V} {i : Nat} {ta tv : TE} {D : Ends}
theorem sf (h2 : H a = some (.ins C dx fs)) (h3 : Cls K C) (h4 : NoAttr K C f) (h5 : fs.lookup f = some v) (q : Q v H) (h1 : σ[i]? = some (some (.ref a)) := by rfl) : tFld K (tVar i) f σ H Q := ⟨_, h1, a, C, dx, fs, v, rfl, h2, h3, h4, h5, q⟩
theorem ff (h2 : H a = some (.ins C dx fs)) (h3 : Cls K C) (h4 : NoAttr K C f) (h5 : fs.lookup f = some v) (q : Q v H) :
    ∃ a' C' dx' fs' v', V.ref a = .ref a' ∧ H a' = some (.ins C' dx' fs') ∧ Cls K C' ∧ NoAttr K C' f ∧ fs'.lookup f = some v' ∧ Q v' H := ⟨a, C, dx, fs, v, rfl, h2, h3, h4, h5, q⟩
theorem stf (h2 : H a = some (.ins C dx fs)) (h3 : Cls K C) (h4 : NoAttr K C f) (h5 : fs.length < 1000) {fs' : List (Str × V)} (e : putF f y fs = fs') (q : D.nx σ (upd H a (.ins C dx fs'))) (h1 : σ[i]? = some (some (.ref a)) := by rfl) :
    tVar i σ H fun x H2 => ∃ a C dx fs, x = .ref a ∧ H2 a = some (.ins C dx fs) ∧ Cls K C ∧ NoAttr K C f ∧ fs.length < 1000 ∧ D.nx σ (upd H2 a (.ins C dx (putF f y fs))) := ⟨_, h1, a, C, dx, fs, rfl, h2, h3, h4, h5, by rw [e]; exact q⟩
theorem augf {z n : Int} (h2 : H a = some (.ins C dx fs)) (h3 : Cls K C) (h4 : NoAttr K C f) (h5 : fs.lookup f = some (.int z)) (h6 : fs.length < 1000) {fs' : List (Str × V)} (e : putF f (.int (z + n)) fs = fs')
    (q : D.nx σ (upd H a (.ins C dx fs'))) (h1 : σ[i]? = some (some (.ref a)) := by rfl) : sFldAug K (tVar i) (tC (.int n)) rAdd f D σ H := ⟨_, h1, a, C, dx, fs, _, rfl, h2, h3, h4, h5, _, _, rfl, rfl, dx, fs, h2, h6, by rw [e]; exact q⟩
end
theorem yes {σ : L2.St} {H : Hp} {A B : Hp → Prop} (h : A H) : tYes σ H fun b H3 => if b = true then A H3 else B H3 := by
  show if true = true then A H else B H
  rw [if_pos rfl]
  exact h
theorem lt1000 {n : Nat} (h : Nat.blt n 1000 = true) : n < 1000 := Nat.le_of_ble_eq_true h
theorem at_int {ws : List Int} {z : Int} (h0 : 0 ≤ z) (h1 : z < ws.length) : atI (ws.map V.int) z = some (.int (ws.getD z.toNat 0)) := by
  unfold atI ixN
  rw [if_pos h0, List.length_map, if_pos h1]
  have : z.toNat < ws.length := by omega
  simp [List.getD, List.getElem?_eq_getElem this]
theorem ix_ok {n : Nat} {z : Int} (h0 : 0 ≤ z) (h1 : z < n) : ixN n z = some z.toNat := by
  unfold ixN
  rw [if_pos h0, if_pos h1]
theorem set_int {ws : List Int} {j : Nat} {x : Int} : (ws.map V.int).set j (.int x) = (ws.set j x).map V.int := by rw [List.map_set]
def Kept (as : List Addr) (H H' : Hp) : Prop := ∀ b o, H b = some o → b ∉ as → H' b = some o
theorem Kept.refl (as : List Addr) (H : Hp) : Kept as H H := fun _ _ h _ => h
theorem Kept.trans {as : List Addr} {H H1 H2 : Hp} (a : Kept as H H1) (b : Kept as H1 H2) : Kept as H H2 := fun c o h n => b c o (a c o h n) n
theorem Kept.mono {as bs : List Addr} {H H1 : Hp} (a : Kept as H H1) (h : ∀ x ∈ as, x ∈ bs) : Kept bs H H1 := fun c o e n => a c o e fun m => n (h c m)
theorem Kept.put {as : List Addr} {H H1 : Hp} {p : Addr} {o : HO} (a : Kept as H H1) (h : p ∈ as) : Kept as H (L2.upd H1 p o) := fun c u e n => by
  have hc : c ≠ p := fun z => n (by rw [z]; exact h)
  rw [upd_ne hc]
  exact a c u e n
theorem Kept.new {as : List Addr} {H H1 : Hp} {p : Addr} {o : HO} (a : Kept as H H1) (h : H p = none) : Kept as H (L2.upd H1 p o) := fun c u e n => by rw [upd_ne (ne_of_none e h)]; exact a c u e n
theorem Kept.same {as : List Addr} {H H1 : Hp} (s : Same H H1) : Kept as H H1 := fun c u e _ => s c u e
theorem Kept.toSame {H H1 : Hp} (a : Kept [] H H1) : Same H H1 := fun c u e => a c u e (by simp)
theorem Same.new {H H1 : Hp} {p : Addr} {o : HO} (a : Same H H1) (h : H p = none) : Same H (L2.upd H1 p o) := fun c u e => by rw [upd_ne (ne_of_none e h)]; exact a c u e
theorem Kept.free {as : List Addr} {H H' : Hp} (e : Kept as H H') {p : Addr} (h : H' p = none) (n : p ∉ as) : H p = none := by
  cases q : H p with
  | none => rfl
  | some o => rw [e p o q n] at h; cases h
theorem Same.tup {K : PySem.W.Frag} {H H' : Hp} {a : Addr} {xs : List V} (e : Same H H') (h : SqT K H a xs) : SqT K H' a xs := by
  rcases h with (h | ⟨o, h⟩) | h
  · exact .inl (.inl (e _ _ h))
  · exact .inl (.inr ⟨o, e _ _ h⟩)
  · exact .inr h
end SB

set_option Elab.async false
set_option linter.all false
set_option maxRecDepth 100000
set_option maxHeartbeats 2000000
namespace SB
open PySem L2
def Wk.start (k : Wk) : Wk := if k.on = true then k else { k with on := true, laid := 0 }
def Wk.held (k : Wk) (ms : List Bool) : Bool := match k.mark with
  | none => false
  | some m => if ms.getD m.toNat false = true then (k.hand.isNone && decide (k.laid % k.block = 0)) else false
def mayK (g : Str) (wanted took : Bool) : Bool := if g = "all" then true else if wanted = false then true else if g = "turn" then !took else false
def Wk.may (k : Wk) (wanted took : Bool) : Bool := if k.greed = "all" then true else if wanted = false then true else if k.greed = "turn" then !took else false
def Wk.move (k : Wk) (ws : List Int) : Wk × List Int × (Str × Int × Int) := match k.hand with
  | none => ({ k with hand := some (ws.getD ((k.begin + k.laid) % ws.length).toNat 0) }, ws, ("get", (k.begin + k.laid) % ws.length, ws.getD ((k.begin + k.laid) % ws.length).toNat 0))
  | some x => ({ k with hand := none, laid := k.laid + 1, on := decide (k.laid + 1 < k.many) }, ws.set ((k.goal + k.laid) % ws.length).toNat x, ("put", (k.goal + k.laid) % ws.length, x))
def Wk.wo (k : Wk) (g : Option Addr) : Wo := ⟨k.begin, k.goal, k.many, k.block, k.greed, k.mark, k.follow, g⟩
theorem mod_rg {x : Int} {n : Nat} (h : 0 < n) : 0 ≤ x % (n : Int) ∧ x % (n : Int) < n := ⟨Int.emod_nonneg _ (by omega), Int.emod_lt_of_pos _ (by omega)⟩
section
variable {P : Program} {w : World} {K : PySem.W.Frag} {mg : Str → Option Value} {base : Heap}
def sp_Going_init (K : PySem.W.Frag) : Sp := fun vs H Q _ => ∃ (a dx : Addr) (n : Int), vs = [.ref a, .int n] ∧ H a = some (.ins (cGoing K) dx []) ∧
  ∀ H' p, H p = none → H' p = some (.lst []) → H' a = some (.ins (cGoing K) dx (ggF ⟨n, none, p⟩)) → Kept [a] H H' → Q .non H'
theorem ok_Going_init (T : T w K mg) : FnR P w K mg base CX0 1 (He.ma K (He.ga K "Going") "__init__") (sp_Going_init K) := by
  obtain ⟨fd, F⟩ := T.f_Going_init
  refine F.r sc_Going_init (fun _ _ _ _ _ _ us hl => match us, hl with | [_, _], _ => rfl) (fun vs H Q E h => ?_) (fun cdv A outer s H vs Q E hr h => ?_)
  · obtain ⟨_, _, _, rfl, _⟩ := h
    rfl
  · obtain ⟨a, dx, n, rfl, hself, k⟩ := h
    refine ⟨_, (pss_cons (ps_fld (pv 0) (pv 1) rfl)
      (pss_cons (ps_fld (pv 0) pe_non rfl)
      (pss_one (ps_fld (pv 0) (pe_lst pa_nil) rfl)))), ?_⟩
    refine ⟨_, rfl, stf hself T.cl_Going T.n_Going_number (by decide) rfl ?_⟩
    refine stf upd_same T.cl_Going T.n_Going_hand (lt1000 (by kernel_rfl)) rfl ?_
    rw [upd_upd]
    refine ⟨by show 0 ≤ sizeLine; decide, fun p hp => ?_⟩
    have pa : p ≠ a := fun z => by rw [z, upd_same] at hp; cases hp
    rw [upd_ne pa] at hp
    refine stf (by rw [upd_ne (Ne.symm pa)]; exact upd_same) T.cl_Going T.n_Going_puts (lt1000 (by kernel_rfl)) (gg_made n none p) ?_
    exact k _ p hp (by rw [upd_ne pa]; exact upd_same) upd_same ((((Kept.refl [a] H).put (by simp)).new hp).put (by simp))
def sp_Work_init (K : PySem.W.Frag) : Sp := fun vs H Q _ => ∃ (a dx : Addr) (b g m c : Int) (gr : Str) (mk fo : Option Int), vs = [.ref a, .int b, .int g, .int m, .int c, .str gr, oV mk, oV fo] ∧ H a = some (.ins (cWork K) dx []) ∧
  ∀ H', H' a = some (.ins (cWork K) dx (woF ⟨b, g, m, c, gr, mk, fo, none⟩)) → Kept [a] H H' → Q .non H'
theorem ok_Work_init (T : T w K mg) : FnR P w K mg base CX0 1 (He.ma K (He.ga K "Work") "__init__") (sp_Work_init K) := by
  obtain ⟨fd, F⟩ := T.f_Work_init
  refine F.r sc_Work_init (fun _ _ _ _ _ _ us hl => match us, hl with | [_, _, _, _, _, _, _, _], _ => rfl) (fun vs H Q E h => ?_) (fun cdv A outer s H vs Q E hr h => ?_)
  · obtain ⟨_, _, _, _, _, _, _, _, _, rfl, _⟩ := h
    rfl
  · obtain ⟨a, dx, b, g, m, c, gr, mk, fo, rfl, hself, k⟩ := h
    refine ⟨_, (pss_cons (ps_fld (pv 0) (pv 1) rfl)
      (pss_cons (ps_fld (pv 0) (pv 2) rfl)
      (pss_cons (ps_fld (pv 0) (pv 3) rfl)
      (pss_cons (ps_fld (pv 0) (pv 4) rfl)
      (pss_cons (ps_fld (pv 0) (pv 5) rfl)
      (pss_cons (ps_fld (pv 0) (pv 6) rfl)
      (pss_cons (ps_fld (pv 0) (pv 7) rfl)
      (pss_one (ps_fld (pv 0) pe_non rfl))))))))), ?_⟩
    refine ⟨_, rfl, stf hself T.cl_Work T.n_Work_begin (by decide) rfl ?_⟩
    refine ⟨_, rfl, stf upd_same T.cl_Work T.n_Work_goal (lt1000 (by kernel_rfl)) rfl ?_⟩
    refine ⟨_, rfl, stf upd_same T.cl_Work T.n_Work_many (lt1000 (by kernel_rfl)) rfl ?_⟩
    refine ⟨_, rfl, stf upd_same T.cl_Work T.n_Work_block (lt1000 (by kernel_rfl)) rfl ?_⟩
    refine ⟨_, rfl, stf upd_same T.cl_Work T.n_Work_greed (lt1000 (by kernel_rfl)) rfl ?_⟩
    refine ⟨_, rfl, stf upd_same T.cl_Work T.n_Work_mark (lt1000 (by kernel_rfl)) rfl ?_⟩
    refine ⟨_, rfl, stf upd_same T.cl_Work T.n_Work_follow (lt1000 (by kernel_rfl)) rfl ?_⟩
    refine stf upd_same T.cl_Work T.n_Work_going (lt1000 (by kernel_rfl)) (wo_made b g m c gr mk fo none) ?_
    exact k _ upd_same (((((((((Kept.refl [a] H).put (by simp)).put (by simp)).put (by simp)).put (by simp)).put (by simp)).put (by simp)).put (by simp)).put (by simp))
def sp_Work_held_off (K : PySem.W.Frag) : Sp := fun vs H Q _ => ∃ (a dx m g dg pl : Addr) (k : Wk) (n : Int) (xs : List V) (ms : List Bool), vs = [.ref a, .ref m] ∧ H a = some (.ins (cWork K) dx (woF (k.wo (some g)))) ∧ H g = some (.ins (cGoing K) dg (ggF ⟨n, k.hand, pl⟩)) ∧ H pl = some (.lst xs) ∧ (xs.length : Int) = k.laid ∧ H m = some (.lst (ms.map V.bl)) ∧ 0 < k.block ∧ (∀ i, k.mark = some i → 0 ≤ i ∧ i < ms.length) ∧ Q (.bl (k.held ms)) H
theorem at_bl {ms : List Bool} {z : Int} (h0 : 0 ≤ z) (h1 : z < ms.length) : atI (ms.map V.bl) z = some (.bl (ms.getD z.toNat false)) := by
  unfold atI ixN
  rw [if_pos h0, List.length_map, if_pos h1]
  have : z.toNat < ms.length := by omega
  simp [List.getD, List.getElem?_eq_getElem this]
theorem dec_intv {x y : Int} : decide (V.int x = V.int y) = decide (x = y) := by
  by_cases z : x = y
  · rw [decide_eq_true z, decide_eq_true (by rw [z])]
  · rw [decide_eq_false z, decide_eq_false (fun y => z (V.int.inj y))]
theorem ok_Work_held_off (T : T w K mg) : FnR P w K mg base CX0 1 (He.ma K (He.ga K "Work") "held_off") (sp_Work_held_off K) := by
  obtain ⟨fd, F⟩ := T.f_Work_held_off
  refine F.r sc_Work_held_off (fun _ _ _ _ _ _ us hl => match us, hl with | [_, _], _ => rfl) (fun vs H Q E h => ?_) (fun cdv A outer s H vs Q E hr h => ?_)
  · obtain ⟨_, _, _, _, _, _, _, _, _, _, rfl, _⟩ := h
    rfl
  · obtain ⟨a, dx, m, g, dg, pl, k, n, xs, ms, rfl, hself, hg, hpl, hlen, hm, hb, hk, q⟩ := h
    refine ⟨_, (pss_cons (ps_if (PW.pt (pw_or (pt_cmp (pc_isN (pe_fld (pv 0) rfl))) (pw_or1 (pt_not (pt_val (pe_ix ix_list (pv 1) (pe_fld (pv 0) rfl) (fun _ _ => rfl)))))))
      (pss_one (ps_ret pe_bl))
      pss_nil)
      (pss_one (ps_ret (pe_and (pe_cmp (pc_isN (pe_fld (pe_fld (pv 0) rfl) rfl))) (pe_one (pe_cmpR op_eq (pe_op op_mod (pe_callB call_len_seq rfl T.u_len PySem.boot_len (pa_cons (pe_fld (pe_fld (pv 0) rfl) rfl) pa_nil)) (pe_fld (pv 0) rfl)) pe_int (nomark _))))))), ?_⟩
    refine ⟨_, rfl, _, _, _, _, _, rfl, hself, T.cl_Work, T.n_Work_mark, (wo_mark _), ?_⟩
    refine ⟨_, rfl, ?_⟩
    unfold Wk.held at q
    show if _ = true then _ else _
    cases e : k.mark with
    | none =>
      rw [e] at q
      have e' : (k.wo (some g)).mark = none := e
      rw [e']
      exact iteT (iteT q)
    | some i =>
      rw [e] at q
      have e' : (k.wo (some g)).mark = some i := e
      obtain ⟨h0, h1⟩ := hk i e
      rw [e']
      refine iteF ?_
      refine ⟨_, rfl, ?_⟩
      refine ⟨_, rfl, _, _, _, _, _, rfl, hself, T.cl_Work, T.n_Work_mark, (wo_mark _), ?_⟩
      refine ⟨_, _, _, _, rfl, by rw [e']; rfl, SqL.of hm, at_bl h0 h1, ?_⟩
      refine ⟨_, rfl, ?_⟩
      cases c : ms.getD i.toNat false with
      | false =>
        have q2 : Q (.bl false) H := by
          have q3 : Q (.bl (if ms.getD i.toNat false = true then (k.hand.isNone && decide (k.laid % k.block = 0)) else false)) H := q
          rw [c] at q3
          exact q3
        exact iteT q2
      | true =>
        have q2 : Q (.bl (k.hand.isNone && decide (k.laid % k.block = 0))) H := by
          have q3 : Q (.bl (if ms.getD i.toNat false = true then (k.hand.isNone && decide (k.laid % k.block = 0)) else false)) H := q
          rw [c] at q3
          exact q3
        refine iteF ?_
        refine ⟨_, rfl, _, _, _, _, _, rfl, hself, T.cl_Work, T.n_Work_going, (wo_going _), ?_⟩
        refine ⟨_, _, _, _, _, rfl, hg, T.cl_Going, T.n_Going_hand, (gg_hand _), ?_⟩
        refine ⟨_, rfl, ?_⟩
        show if _ = true then _ else _
        cases eh : k.hand with
        | none =>
          rw [eh] at q2
          refine iteT ?_
          refine ⟨_, rfl, _, _, _, _, _, rfl, hself, T.cl_Work, T.n_Work_going, (wo_going _), ?_⟩
          refine ⟨_, _, _, _, _, rfl, hg, T.cl_Going, T.n_Going_puts, (gg_puts _), ?_⟩
          refine ⟨_, _, rfl, .inl (SqL.of hpl), ?_⟩
          refine ⟨_, rfl, _, _, _, _, _, rfl, hself, T.cl_Work, T.n_Work_block, (wo_block _), ?_⟩
          refine ⟨_, _, rfl, rfl, hb, ?_⟩
          refine ⟨rfl, ?_⟩
          show Q (.bl (decide (V.int ((xs.length : Int) % k.block) = V.int 0))) H
          rw [dec_intv, hlen]
          exact q2
        | some x =>
          rw [eh] at q2
          exact iteF q2
def sp_Work_may_take (K : PySem.W.Frag) : Sp := fun vs H Q _ => ∃ (a dx : Addr) (k : Wo) (wanted took : Bool), vs = [.ref a, .bl wanted, .bl took] ∧ H a = some (.ins (cWork K) dx (woF k)) ∧ Q (.bl ((mayK k.greed) wanted took)) H
theorem dec_str {x y : Str} : decide (V.str x = V.str y) = decide (x = y) := by
  by_cases z : x = y
  · rw [decide_eq_true z, decide_eq_true (by rw [z])]
  · rw [decide_eq_false z, decide_eq_false (fun y => z (V.str.inj y))]
theorem ok_Work_may_take (T : T w K mg) : FnR P w K mg base CX0 1 (He.ma K (He.ga K "Work") "may_take") (sp_Work_may_take K) := by
  obtain ⟨fd, F⟩ := T.f_Work_may_take
  refine F.r sc_Work_may_take (fun _ _ _ _ _ _ us hl => match us, hl with | [_, _, _], _ => rfl) (fun vs H Q E h => ?_) (fun cdv A outer s H vs Q E hr h => ?_)
  · obtain ⟨_, _, _, _, _, rfl, _⟩ := h
    rfl
  · obtain ⟨a, dx, k, wanted, took, rfl, hself, q⟩ := h
    refine ⟨_, (pss_cons (ps_if (PW.pt (pw_or (pt_cmpR op_eq (pe_fld (pv 0) rfl) pe_str (nomark _)) (pw_or1 (pt_not (pt_val (pv 1))))))
      (pss_one (ps_ret pe_bl))
      pss_nil)
      (pss_one (ps_ret (pe_and (pe_cmpR op_eq (pe_fld (pv 0) rfl) pe_str (nomark _)) (pe_one (pe_not (pv 2))))))), ?_⟩
    refine ⟨_, rfl, _, _, _, _, _, rfl, hself, T.cl_Work, T.n_Work_greed, (wo_greed _), ?_⟩
    refine ⟨rfl, ?_⟩
    refine ⟨_, rfl, ?_⟩
    rw [dec_str]
    unfold mayK at q
    by_cases g : k.greed = "all"
    · rw [if_pos g] at q
      rw [decide_eq_true g]
      exact iteT (iteT q)
    · rw [if_neg g] at q
      rw [decide_eq_false g]
      refine iteF ?_
      refine ⟨_, rfl, ?_⟩
      refine ⟨_, rfl, ?_⟩
      cases wanted with
      | false => exact iteT q
      | true =>
        rw [if_neg (by decide)] at q
        refine iteF ?_
        refine ⟨_, rfl, _, _, _, _, _, rfl, hself, T.cl_Work, T.n_Work_greed, (wo_greed _), ?_⟩
        refine ⟨rfl, ?_⟩
        refine ⟨_, rfl, ?_⟩
        rw [dec_str]
        by_cases g2 : k.greed = "turn"
        · rw [if_pos g2] at q
          rw [decide_eq_true g2]
          refine iteT ?_
          refine ⟨_, rfl, ?_⟩
          exact ⟨_, rfl, q⟩
        · rw [if_neg g2] at q
          rw [decide_eq_false g2]
          exact iteF q

def FetchPost (K : PySem.W.Frag) (H H' : Hp) (p g dg pl : Addr) (n : Int) (k : Wk) (ws : List Int) : Prop :=
  H p = none ∧ H' p = some (.tup [.str "get", .int ((k.begin + k.laid) % ws.length), .int (ws.getD ((k.begin + k.laid) % ws.length).toNat 0)]) ∧ H' g = some (.ins (cGoing K) dg (ggF ⟨n, some (ws.getD ((k.begin + k.laid) % ws.length).toNat 0), pl⟩)) ∧ Kept [g] H H'
def sp_Work_fetch (K : PySem.W.Frag) : Sp := fun vs H Q _ => ∃ (a dx g dg pl l : Addr) (k : Wk) (n : Int) (xs : List V) (ws : List Int), vs = [.ref a, .ref l] ∧ H a = some (.ins (cWork K) dx (woF (k.wo (some g)))) ∧ H g = some (.ins (cGoing K) dg (ggF ⟨n, k.hand, pl⟩)) ∧ H pl = some (.lst xs) ∧ (xs.length : Int) = k.laid ∧
  H l = some (.lst (ws.map V.int)) ∧ 0 < ws.length ∧ ∀ H' p, FetchPost K H H' p g dg pl n k ws → Q (.ref p) H'
theorem ok_Work_fetch (T : T w K mg) : FnR P w K mg base CX0 1 (He.ma K (He.ga K "Work") "fetch") (sp_Work_fetch K) := by
  obtain ⟨fd, F⟩ := T.f_Work_fetch
  refine F.r sc_Work_fetch (fun _ _ _ _ _ _ us hl => match us, hl with | [_, _], _ => rfl) (fun vs H Q E h => ?_) (fun cdv A outer s H vs Q E hr h => ?_)
  · obtain ⟨_, _, _, _, _, _, _, _, _, _, rfl, _⟩ := h
    rfl
  · obtain ⟨a, dx, g, dg, pl, l, k, n, xs, ws, rfl, hself, hg, hpl, hlen, hl, hw, q⟩ := h
    obtain ⟨m0, m1⟩ := mod_rg (x := k.begin + k.laid) hw
    refine ⟨_, (pss_cons (ps_set (i := 2) sc_Work_fetch.nd rfl (Or.inl rfl) (pe_fld (pv 0) rfl))
      (pss_cons (ps_set (i := 3) sc_Work_fetch.nd rfl (Or.inl rfl) (pe_op op_mod (pe_op op_add (pe_fld (pv 0) rfl) (pe_callB call_len_seq rfl T.u_len PySem.boot_len (pa_cons (pe_fld (pv 2) rfl) pa_nil))) (pe_callB call_len_seq rfl T.u_len PySem.boot_len (pa_cons (pv 1) pa_nil))))
      (pss_cons (ps_fld (pv 2) (pe_ix ix_list (pv 1) (pv 3) (fun _ _ => rfl)) rfl)
      (pss_one (ps_ret (pe_tup (pa_cons pe_str (pa_cons (pv 3) (pa_cons (pe_fld (pv 2) rfl) pa_nil))))))))), ?_⟩
    refine ⟨_, rfl, _, _, _, _, _, rfl, hself, T.cl_Work, T.n_Work_going, wo_going _, ?_⟩ -- going = self.going
    refine ⟨_, rfl, _, _, _, _, _, rfl, hself, T.cl_Work, T.n_Work_begin, wo_begin _, ?_⟩
    refine ⟨_, rfl, _, _, _, _, _, rfl, hg, T.cl_Going, T.n_Going_puts, gg_puts _, ?_⟩
    refine ⟨_, _, rfl, .inl (SqL.of hpl), ?_⟩ -- len
    refine ⟨_, _, rfl, rfl, ?_⟩ -- self.begin + len
    refine ⟨_, rfl, ?_⟩ -- words
    refine ⟨_, _, rfl, .inl (SqL.of hl), ?_⟩ -- len
    rw [List.length_map]
    refine ⟨_, _, rfl, rfl, (by omega), ?_⟩ -- %
    rw [hlen]
    refine ⟨_, rfl, ?_⟩ -- words
    refine ⟨_, rfl, ?_⟩ -- address
    refine ⟨_, _, _, _, rfl, rfl, SqL.of hl, at_int m0 m1, ?_⟩ -- words[address]
    refine stf hg T.cl_Going T.n_Going_hand (gg_len _) (gg_put_handS _ _) ?_ -- going.hand = words[address]
    refine ⟨_, rfl, ?_⟩ -- address
    refine ⟨_, rfl, _, _, _, _, _, rfl, upd_same, T.cl_Going, T.n_Going_hand, gg_hand _, ?_⟩
    refine ⟨by show 3 ≤ sizeLine; decide, fun p hp => ?_⟩ -- ('get', address, self.hand)
    have pg : p ≠ g := fun z => by rw [z, upd_same] at hp; cases hp
    rw [upd_ne pg] at hp
    exact q _ p ⟨hp, upd_same, by rw [upd_ne (Ne.symm pg)]; exact upd_same, ((Kept.refl _ H).put (by simp)).new hp⟩
def LayPost (K : PySem.W.Frag) (H H' : Hp) (p t a dx g dg pl l : Addr) (n when : Int) (k : Wk) (xs : List V) (ws : List Int) (x : Int) : Prop :=
  H p = none ∧ H t = none ∧ H' p = some (.tup [.str "put", .int ((k.goal + k.laid) % ws.length), .int x]) ∧ H' t = some (.tup [.int when, .int ((k.goal + k.laid) % ws.length)]) ∧ H' pl = some (.lst (xs ++ [.ref t])) ∧ H' g = some (.ins (cGoing K) dg (ggF ⟨n, none, pl⟩)) ∧
  H' a = some (.ins (cWork K) dx (woF (k.wo (if k.laid + 1 < k.many then some g else none)))) ∧ H' l = some (.lst ((ws.set ((k.goal + k.laid) % ws.length).toNat x).map V.int)) ∧ Kept [a, g, pl, l] H H'
def sp_Work_lay (K : PySem.W.Frag) : Sp := fun vs H Q _ => ∃ (a dx g dg pl l : Addr) (k : Wk) (n when x : Int) (xs : List V) (ws : List Int), vs = [.ref a, .int when, .ref l] ∧ H a = some (.ins (cWork K) dx (woF (k.wo (some g)))) ∧ H g = some (.ins (cGoing K) dg (ggF ⟨n, k.hand, pl⟩)) ∧ H pl = some (.lst xs) ∧ (xs.length : Int) = k.laid ∧
  H l = some (.lst (ws.map V.int)) ∧ 0 < ws.length ∧ a ≠ g ∧ l ≠ pl ∧ k.hand = some x ∧ k.laid < k.many ∧ k.laid < 1000 ∧ ∀ H' p t, LayPost K H H' p t a dx g dg pl l n when k xs ws x → Q (.ref p) H'
theorem ok_Work_lay (T : T w K mg) : FnR P w K mg base CX0 1 (He.ma K (He.ga K "Work") "lay") (sp_Work_lay K) := by
  obtain ⟨fd, F⟩ := T.f_Work_lay
  refine F.r sc_Work_lay (fun _ _ _ _ _ _ us hl => match us, hl with | [_, _, _], _ => rfl) (fun vs H Q E h => ?_) (fun cdv A outer s H vs Q E hr h => ?_)
  · obtain ⟨_, _, _, _, _, _, _, _, _, _, _, _, rfl, _⟩ := h
    rfl
  · obtain ⟨a, dx, g, dg, pl, l, k, n, when, x, xs, ws, rfl, hself, hg, hpl, hlen, hl, hw, ag, lpl, hx, hlm, hl3, q⟩ := h
    obtain ⟨m0, m1⟩ := mod_rg (x := k.goal + k.laid) hw
    have al : a ≠ l := ne_of hself hl (by intro z; cases z)
    have apl : a ≠ pl := ne_of hself hpl (by intro z; cases z)
    have gl : g ≠ l := ne_of hg hl (by intro z; cases z)
    have gpl : g ≠ pl := ne_of hg hpl (by intro z; cases z)
    refine ⟨_, (pss_cons (ps_set (i := 3) sc_Work_lay.nd rfl (Or.inl rfl) (pe_fld (pv 0) rfl))
      (pss_cons (ps_set (i := 4) sc_Work_lay.nd rfl (Or.inl rfl) (pe_op op_mod (pe_op op_add (pe_fld (pv 0) rfl) (pe_callB call_len_seq rfl T.u_len PySem.boot_len (pa_cons (pe_fld (pv 3) rfl) pa_nil))) (pe_callB call_len_seq rfl T.u_len PySem.boot_len (pa_cons (pv 2) pa_nil))))
      (pss_cons (ps_set (i := 5) sc_Work_lay.nd rfl (Or.inl rfl) (pe_fld (pv 3) rfl))
      (pss_cons (ps_asg (pv 5) (pg_sub (pv 2) (pv 4) set_list))
      (pss_cons (ps_fld (pv 3) pe_non rfl)
      (pss_cons (ps_expr (pe_bm PySem.F.plainAttrs_list PySem.F.slot_list_append PySem.F.type_list_append mt_append (pe_fld (pv 3) rfl) (pa_cons (pe_tup (pa_cons (pv 1) (pa_cons (pv 4) pa_nil))) pa_nil)))
      (pss_cons (ps_if (pt_cmpR op_eq (pe_callB call_len_seq rfl T.u_len PySem.boot_len (pa_cons (pe_fld (pv 3) rfl) pa_nil)) (pe_fld (pv 0) rfl) (nomark _))
      (pss_one (ps_fld (pv 0) pe_non rfl))
      pss_nil)
      (pss_one (ps_ret (pe_tup (pa_cons pe_str (pa_cons (pv 4) (pa_cons (pv 5) pa_nil))))))))))))), ?_⟩
    refine ⟨_, rfl, _, _, _, _, _, rfl, hself, T.cl_Work, T.n_Work_going, wo_going _, ?_⟩ -- going = self.going
    refine ⟨_, rfl, _, _, _, _, _, rfl, hself, T.cl_Work, T.n_Work_goal, wo_goal _, ?_⟩
    refine ⟨_, rfl, _, _, _, _, _, rfl, hg, T.cl_Going, T.n_Going_puts, gg_puts _, ?_⟩
    refine ⟨_, _, rfl, .inl (SqL.of hpl), ?_⟩ -- len
    refine ⟨_, _, rfl, rfl, ?_⟩ -- self.goal + len
    refine ⟨_, rfl, ?_⟩ -- words
    refine ⟨_, _, rfl, .inl (SqL.of hl), ?_⟩ -- len
    rw [List.length_map]
    refine ⟨_, _, rfl, rfl, (by omega), ?_⟩ -- %
    rw [hlen]
    refine ⟨_, rfl, _, _, _, _, _, rfl, hg, T.cl_Going, T.n_Going_hand, gg_hand _, ?_⟩ -- word = going.hand
    refine ⟨_, rfl, ?_⟩ -- word
    refine ⟨_, rfl, ?_⟩ -- words
    refine ⟨_, rfl, ?_⟩ -- address
    refine ⟨_, _, _, _, rfl, rfl, hl, ix_ok m0 (by rw [List.length_map]; exact m1), ?_⟩ -- words[address] = word
    show (tSeq _ _) _ _ (upd H l (.lst ((ws.map V.int).set _ (oV k.hand))))
    rw [hx]
    show (tSeq _ _) _ _ (upd H l (.lst ((ws.map V.int).set _ (V.int x))))
    rw [set_int]
    show (tSeq _ _) _ _ (upd H l (.lst ((ws.set ((k.goal + k.laid) % ws.length).toNat x).map V.int)))
    generalize e1 : upd H l (.lst ((ws.set ((k.goal + k.laid) % ws.length).toNat x).map V.int)) = H1
    have hg1 : H1 g = some (.ins (cGoing K) dg (ggF ⟨n, k.hand, pl⟩)) := by rw [← e1, upd_ne gl]; exact hg
    refine stf hg1 T.cl_Going T.n_Going_hand (gg_len _) (gg_put_handN _) ?_ -- going.hand = None
    generalize e2 : upd H1 g _ = H2
    have hg2 : H2 g = some (.ins (cGoing K) dg (ggF ⟨n, none, pl⟩)) := by rw [← e2]; exact upd_same
    have hpl2 : H2 pl = some (.lst xs) := by rw [← e2, upd_ne (Ne.symm gpl), ← e1, upd_ne (Ne.symm lpl)]; exact hpl
    have ha2 : H2 a = some (.ins (cWork K) dx (woF (k.wo (some g)))) := by rw [← e2, upd_ne ag, ← e1, upd_ne al]; exact hself
    have hl2 : H2 l = some (.lst ((ws.set ((k.goal + k.laid) % ws.length).toNat x).map V.int)) := by rw [← e2, upd_ne (Ne.symm gl), ← e1]; exact upd_same
    have k2 : Kept [a, g, pl, l] H H2 := by rw [← e2, ← e1]; exact ((Kept.refl _ H).put (by simp)).put (by simp)
    have f2 : ∀ p, H2 p = none → H p = none := fun p hp => by
      have h1 : p ≠ g := fun z => by rw [z, hg2] at hp; cases hp
      have h2 : p ≠ l := fun z => by rw [z, hl2] at hp; cases hp
      rw [← e2, upd_ne h1, ← e1, upd_ne h2] at hp
      exact hp
    refine ⟨_, rfl, _, _, _, _, _, rfl, hg2, T.cl_Going, T.n_Going_puts, gg_puts _, ?_⟩
    refine ⟨.inl ⟨rfl, _, SqL.of hpl2⟩, ?_⟩
    refine ⟨_, rfl, ?_⟩ -- when
    refine ⟨_, rfl, ?_⟩ -- address
    refine ⟨by show 2 ≤ sizeLine; decide, fun t ht => ?_⟩ -- (when, address)
    have tpl : pl ≠ t := ne_of_none hpl2 ht
    have tg : g ≠ t := ne_of_none hg2 ht
    have ta : a ≠ t := ne_of_none ha2 ht
    have tl : l ≠ t := ne_of_none hl2 ht
    refine ⟨_, _, _, rfl, rfl, by rw [upd_ne tpl]; exact hpl2, by show xs.length < 16777216; omega, ?_⟩ -- append
    generalize e3 : upd (upd H2 t _) pl _ = H3
    have hpl3 : H3 pl = some (.lst (xs ++ [.ref t])) := by rw [← e3]; exact upd_same
    have hg3 : H3 g = some (.ins (cGoing K) dg (ggF ⟨n, none, pl⟩)) := by rw [← e3, upd_ne gpl, upd_ne tg]; exact hg2
    have ha3 : H3 a = some (.ins (cWork K) dx (woF (k.wo (some g)))) := by rw [← e3, upd_ne apl, upd_ne ta]; exact ha2
    have hl3' : H3 l = some (.lst ((ws.set ((k.goal + k.laid) % ws.length).toNat x).map V.int)) := by rw [← e3, upd_ne lpl, upd_ne tl]; exact hl2
    have ht3 : H3 t = some (.tup [.int when, .int ((k.goal + k.laid) % ws.length)]) := by rw [← e3, upd_ne (Ne.symm tpl)]; exact upd_same
    have k3 : Kept [a, g, pl, l] H H3 := by rw [← e3]; exact (k2.new (f2 t ht)).put (by simp)
    refine ⟨_, rfl, _, _, _, _, _, rfl, hg3, T.cl_Going, T.n_Going_puts, gg_puts _, ?_⟩
    refine ⟨_, _, rfl, .inl (SqL.of hpl3), ?_⟩ -- len
    refine ⟨_, rfl, _, _, _, _, _, rfl, ha3, T.cl_Work, T.n_Work_many, wo_many _, ?_⟩
    refine ⟨rfl, ?_⟩
    refine ⟨_, rfl, ?_⟩ -- test
    rw [dec_intv]
    have el : ((xs ++ [V.ref t]).length : Int) = k.laid + 1 := by rw [List.length_append]; show ((xs.length + 1 : Nat) : Int) = _; omega
    rw [el]
    have fin : ∀ H4 : Hp, H4 pl = some (.lst (xs ++ [.ref t])) → H4 g = some (.ins (cGoing K) dg (ggF ⟨n, none, pl⟩)) → H4 a = some (.ins (cWork K) dx (woF (k.wo (if k.laid + 1 < k.many then some g else none)))) → H4 l = some (.lst ((ws.set ((k.goal + k.laid) % ws.length).toNat x).map V.int)) →
        H4 t = some (.tup [.int when, .int ((k.goal + k.laid) % ws.length)]) → Kept [a, g, pl, l] H H4 → (∀ p, H4 p = none → H p = none) →
        tRet (tTup (tCons (tC (.str "put")) (tCons (tVar 4) (tCons (tVar 5) tNil)))) { nx := fun _ H' => Q .non H', rt := Q } [some (.ref a), some (.int when), some (.ref l), some (.ref g), some (.int ((k.goal + k.laid) % ws.length)), some (oV (some x))] H4 := by
      intro H4 a1 a2 a3 a4 a5 a6 a7
      refine ⟨_, rfl, ?_⟩ -- address
      refine ⟨_, rfl, ?_⟩ -- word
      refine ⟨by show 3 ≤ sizeLine; decide, fun p hp => ?_⟩ -- ('put', address, word)
      have np := a7 p hp
      exact q _ p t ⟨np, f2 t ht, upd_same, by rw [upd_ne (ne_of_none a5 hp)]; exact a5, by rw [upd_ne (ne_of_none a1 hp)]; exact a1, by rw [upd_ne (ne_of_none a2 hp)]; exact a2, by rw [upd_ne (ne_of_none a3 hp)]; exact a3, by rw [upd_ne (ne_of_none a4 hp)]; exact a4, a6.new np⟩
    have f3 : ∀ p, H3 p = none → H p = none := fun p hp => by
      have h1 : p ≠ pl := fun z => by rw [z, hpl3] at hp; cases hp
      have h2 : p ≠ t := fun z => by rw [z, ht3] at hp; cases hp
      rw [← e3, upd_ne h1, upd_ne h2] at hp
      exact f2 p hp
    by_cases c : k.laid + 1 = k.many
    · have c' : ¬ k.laid + 1 < k.many := by omega
      rw [if_neg c'] at fin
      have c2 : (k.laid + 1 = (k.wo (some g)).many) := c
      rw [decide_eq_true c2]
      refine iteT ?_
      refine stf ha3 T.cl_Work T.n_Work_going (wo_len _) (wo_put_goingN _) ?_
      refine fin _ (by rw [upd_ne (Ne.symm apl)]; exact hpl3) (by rw [upd_ne (Ne.symm ag)]; exact hg3) upd_same (by rw [upd_ne (Ne.symm al)]; exact hl3') (by rw [upd_ne (Ne.symm ta)]; exact ht3) (k3.put (by simp)) (fun p hp => ?_)
      have h1 : p ≠ a := fun z => by rw [z, upd_same] at hp; cases hp
      rw [upd_ne h1] at hp
      exact f3 p hp
    · have c' : k.laid + 1 < k.many := by omega
      rw [if_pos c'] at fin
      have c2 : ¬ (k.laid + 1 = (k.wo (some g)).many) := c
      rw [decide_eq_false c2]
      exact iteF (fin _ hpl3 hg3 ha3 hl3' ht3 k3 f3)
def sp_Work_move (K : PySem.W.Frag) : Sp := fun vs H Q _ => ∃ (a dx g dg pl l : Addr) (k : Wk) (n when : Int) (xs : List V) (ws : List Int), vs = [.ref a, .int when, .ref l] ∧ H a = some (.ins (cWork K) dx (woF (k.wo (some g)))) ∧ H g = some (.ins (cGoing K) dg (ggF ⟨n, k.hand, pl⟩)) ∧ H pl = some (.lst xs) ∧ (xs.length : Int) = k.laid ∧
  H l = some (.lst (ws.map V.int)) ∧ 0 < ws.length ∧ a ≠ g ∧ l ≠ pl ∧ k.laid < k.many ∧ k.laid < 1000 ∧ (k.hand = none → ∀ H' p, FetchPost K H H' p g dg pl n k ws → Q (.ref p) H') ∧ (∀ x, k.hand = some x → ∀ H' p t, LayPost K H H' p t a dx g dg pl l n when k xs ws x → Q (.ref p) H')
theorem ok_Work_move (T : T w K mg) : FnR P w K mg base CX0 2 (He.ma K (He.ga K "Work") "move") (sp_Work_move K) := by
  have F_Work_fetch : FnR P w K mg base CX0 1 _ _ := ok_Work_fetch T
  have F_Work_lay : FnR P w K mg base CX0 1 _ _ := ok_Work_lay T
  obtain ⟨fd, F⟩ := T.f_Work_move
  refine F.r sc_Work_move (fun _ _ _ _ _ _ us hl => match us, hl with | [_, _, _], _ => rfl) (fun vs H Q E h => ?_) (fun cdv A outer s H vs Q E hr h => ?_)
  · obtain ⟨_, _, _, _, _, _, _, _, _, _, _, rfl, _⟩ := h
    rfl
  · obtain ⟨a, dx, g, dg, pl, l, k, n, when, xs, ws, rfl, hself, hg, hpl, hlen, hl, hw, ag, lpl, hlm, hl3, q1, q2⟩ := h
    refine ⟨_, (pss_cons (ps_if (pt_cmp (pc_isN (pe_fld (pe_fld (pv 0) rfl) rfl)))
      (pss_one (ps_ret (pe_mthR (pv 0) T.cl_Work T.m_Work_fetch F_Work_fetch (hr.mono (by decide)) (pa_cons (pv 2) pa_nil))))
      pss_nil)
      (pss_one (ps_ret (pe_mthR (pv 0) T.cl_Work T.m_Work_lay F_Work_lay (hr.mono (by decide)) (pa_cons (pv 1) (pa_cons (pv 2) pa_nil)))))), ?_⟩
    refine ⟨_, rfl, _, _, _, _, _, rfl, hself, T.cl_Work, T.n_Work_going, wo_going _, ?_⟩
    refine ⟨_, _, _, _, _, rfl, hg, T.cl_Going, T.n_Going_hand, gg_hand _, ?_⟩
    refine ⟨_, rfl, ?_⟩ -- test
    show if _ = true then _ else _
    cases hn : k.hand with
    | none =>
      refine iteT ?_
      refine ⟨_, rfl, ?_⟩ -- self
      refine ⟨_, _, _, rfl, hself, wo_no_fetch _, ?_⟩
      refine ⟨_, rfl, ?_⟩ -- words
      exact ⟨a, dx, g, dg, pl, l, k, n, xs, ws, rfl, hself, hg, hpl, hlen, hl, hw, q1 hn⟩
    | some x =>
      refine iteF ?_
      refine ⟨_, rfl, ?_⟩ -- self
      refine ⟨_, _, _, rfl, hself, wo_no_lay _, ?_⟩
      refine ⟨_, rfl, _, rfl, ?_⟩ -- when, words
      exact ⟨a, dx, g, dg, pl, l, k, n, when, x, xs, ws, rfl, hself, hg, hpl, hlen, hl, hw, ag, lpl, hn, hlm, hl3, q2 x hn⟩
end
end SB

set_option Elab.async false
set_option linter.all false
set_option maxRecDepth 100000
set_option maxHeartbeats 2000000
namespace SB
open PySem L2
structure Go where
  n : Nat
  hand : Option Int
  pu : List (Int × Int)
structure GH where
  G : List Go
  cur : List (Option Nat)
  nb : Nat
def GH.start (g : GH) (n : Nat) : GH := match g.cur[n]? with
  | some none => { g with G := g.G ++ [⟨n, none, []⟩], cur := g.cur.set n (some g.G.length) }
  | _ => g
def GH.move (g : GH) (j : Nat) (k : Wk) (when : Int) (ws : List Int) : GH := match g.cur[j]? with
  | some (some i) => (match g.G[i]? with
    | some e => (match k.hand with
      | none => { g with G := g.G.set i { e with hand := some (ws.getD ((k.begin + k.laid) % ws.length).toNat 0) } }
      | some _ => { g with G := g.G.set i { e with hand := none, pu := e.pu ++ [(when, (k.goal + k.laid) % ws.length)] }, cur := if k.laid + 1 < k.many then g.cur else g.cur.set j none })
    | none => g)
  | _ => g
structure GOk (ks : List Wk) (g : GH) : Prop where
  clen : g.cur.length = ks.length
  on : ∀ (j : Nat) (k : Wk) (i : Nat), ks[j]? = some k → g.cur[j]? = some (some i) → k.on = true ∧ ∃ e, g.G[i]? = some e ∧ e.n = j ∧ e.hand = k.hand ∧ (e.pu.length : Int) = k.laid ∧ k.laid < k.many
  off : ∀ (j : Nat) (k : Wk), ks[j]? = some k → g.cur[j]? = some none → k.on = false ∧ k.hand = none
  mb : ∀ k ∈ ks, 0 < k.many ∧ k.many ≤ 16
  nbl : g.nb ≤ g.G.length
section
variable {α : Type}
theorem gset_self {l : List α} {i : Nat} {x y : α} (h : l[i]? = some y) : (l.set i x)[i]? = some x := List.getElem?_set_self (List.getElem?_eq_some_iff.mp h).1
theorem gset_ne {l : List α} {i j : Nat} {x : α} (h : j ≠ i) : (l.set i x)[j]? = l[j]? := List.getElem?_set_ne (fun z => h z.symm)
theorem gapp {l r : List α} {i : Nat} {x : α} (h : l[i]? = some x) : (l ++ r)[i]? = some x := by rw [List.getElem?_append_left (List.getElem?_eq_some_iff.mp h).1]; exact h
theorem gend {l : List α} {x : α} : (l ++ [x])[l.length]? = some x := by simp
theorem set_same {l : List α} {i : Nat} {x : α} (h : l[i]? = some x) : l.set i x = l := by
  obtain ⟨hi, e⟩ := List.getElem?_eq_some_iff.mp h
  rw [← e]
  exact List.set_getElem_self hi
theorem modify_out {f : α → α} : ∀ {l : List α} {i : Nat}, l.length ≤ i → l.modify i f = l
  | [], i, _ => by cases i <;> rfl
  | a :: r, 0, h => by simp at h
  | a :: r, i + 1, h => by
    show a :: r.modify i f = a :: r
    rw [modify_out (by simpa using h)]
theorem modify_set {f : α → α} : ∀ {l : List α} {i : Nat} {x : α}, l[i]? = some x → l.modify i f = l.set i (f x)
  | [], i, x, h => by simp at h
  | a :: r, 0, x, h => by
    have e : a = x := by simpa using h
    subst e
    rfl
  | a :: r, i + 1, x, h => by
    show a :: r.modify i f = a :: r.set i (f x)
    rw [modify_set (by simpa using h)]
theorem all_modify {p : α → Prop} {f : α → α} (hf : ∀ x, p x → p (f x)) : ∀ {l : List α} {i : Nat}, (∀ x ∈ l, p x) → ∀ x ∈ l.modify i f, p x
  | [], i, h, x, hx => by cases i <;> simp [List.modify] at hx
  | a :: r, 0, h, x, hx => by
    have hx' : x ∈ f a :: r := hx
    rcases List.mem_cons.mp hx' with rfl | hx'
    · exact hf a (h a List.mem_cons_self)
    · exact h x (List.mem_cons_of_mem _ hx')
  | a :: r, i + 1, h, x, hx => by
    have hx' : x ∈ a :: r.modify i f := hx
    rcases List.mem_cons.mp hx' with rfl | hx'
    · exact h x List.mem_cons_self
    · exact all_modify hf (fun y hy => h y (List.mem_cons_of_mem _ hy)) x hx'
theorem all_set {p : α → Prop} {l : List α} {i : Nat} {y : α} (h : ∀ x ∈ l, p x) (hy : p y) : ∀ x ∈ l.set i y, p x := fun x hx => by
  rcases List.mem_or_eq_of_mem_set hx with z | z
  · exact h x z
  · rw [z]; exact hy
end
section
variable {ks : List Wk} {g : GH}
theorem start_none {n : Nat} (h : g.cur[n]? = none) : g.start n = g := by unfold GH.start; rw [h]
theorem start_on {n i : Nat} (h : g.cur[n]? = some (some i)) : g.start n = g := by unfold GH.start; rw [h]
theorem start_off {n : Nat} (h : g.cur[n]? = some none) : g.start n = { g with G := g.G ++ [⟨n, none, []⟩], cur := g.cur.set n (some g.G.length) } := by unfold GH.start; rw [h]
theorem move_eq {j i : Nat} {e : Go} {k : Wk} {when : Int} {ws : List Int} (h1 : g.cur[j]? = some (some i)) (h2 : g.G[i]? = some e) : g.move j k when ws = (match k.hand with
      | none => { g with G := g.G.set i { e with hand := some (ws.getD ((k.begin + k.laid) % ws.length).toNat 0) } }
      | some _ => { g with G := g.G.set i { e with hand := none, pu := e.pu ++ [(when, (k.goal + k.laid) % ws.length)] }, cur := if k.laid + 1 < k.many then g.cur else g.cur.set j none }) := by
  unfold GH.move
  rw [h1]
  simp only [h2]
theorem GOk.start_same (O : GOk ks g) {n : Nat} (h : g.cur[n]? ≠ some none) : ks.modify n Wk.start = ks := by
  cases e : g.cur[n]? with
  | none =>
    have := List.getElem?_eq_none_iff.mp e
    rw [O.clen] at this
    exact modify_out this
  | some o =>
    cases o with
    | none => exact absurd e h
    | some i =>
      have hn : n < ks.length := by rw [← O.clen]; exact (List.getElem?_eq_some_iff.mp e).1
      have hk := List.getElem?_eq_getElem hn
      rw [modify_set hk]
      have ho := (O.on n _ i hk e).1
      have es : (ks[n]).start = ks[n] := by unfold Wk.start; rw [if_pos ho]
      rw [es]
      exact set_same hk
theorem GOk.start (O : GOk ks g) (n : Nat) : GOk (ks.modify n Wk.start) (g.start n) := by
  by_cases h : g.cur[n]? = some none
  · have hn : n < ks.length := by rw [← O.clen]; exact (List.getElem?_eq_some_iff.mp h).1
    have hk := List.getElem?_eq_getElem hn
    obtain ⟨o1, o2⟩ := O.off n _ hk h
    rw [start_off h, modify_set hk]
    have es : (ks[n]).start = { ks[n] with on := true, laid := 0 } := by unfold Wk.start; rw [o1]; rfl
    rw [es]
    have mb := O.mb _ (List.mem_of_getElem? hk)
    refine ⟨by simp [O.clen], fun j k i h1 h2 => ?_, fun j k h1 h2 => ?_, all_set O.mb mb, ?_⟩
    · by_cases hj : j = n
      · subst hj
        rw [gset_self hk] at h1
        have h2' : (g.cur.set j (some g.G.length))[j]? = some (some i) := h2
        rw [gset_self h] at h2'
        cases h1
        cases h2'
        exact ⟨rfl, _, gend, rfl, o2.symm, rfl, mb.1⟩
      · rw [gset_ne hj] at h1
        have h2' : (g.cur.set n (some g.G.length))[j]? = some (some i) := h2
        rw [gset_ne hj] at h2'
        obtain ⟨p1, e, p2, p3⟩ := O.on j k i h1 h2'
        exact ⟨p1, e, gapp p2, p3⟩
    · by_cases hj : j = n
      · subst hj
        have h2' : (g.cur.set j (some g.G.length))[j]? = some none := h2
        rw [gset_self h] at h2'
        cases h2'
      · rw [gset_ne hj] at h1
        have h2' : (g.cur.set n (some g.G.length))[j]? = some none := h2
        rw [gset_ne hj] at h2'
        exact O.off j k h1 h2'
    · have := O.nbl
      show g.nb ≤ (g.G ++ [_]).length
      rw [List.length_append]
      omega
  · rw [O.start_same h]
    cases e : g.cur[n]? with
    | none => rw [start_none e]; exact O
    | some o =>
      cases o with
      | none => exact absurd e h
      | some i => rw [start_on e]; exact O
theorem GOk.inj (O : GOk ks g) {j j' i : Nat} (h : g.cur[j]? = some (some i)) (h' : g.cur[j']? = some (some i)) : j = j' := by
  have f : ∀ {j : Nat}, g.cur[j]? = some (some i) → ∃ k, ks[j]? = some k := fun {j} h => ⟨_, List.getElem?_eq_getElem (by rw [← O.clen]; exact (List.getElem?_eq_some_iff.mp h).1)⟩
  obtain ⟨k, hk⟩ := f h
  obtain ⟨k', hk'⟩ := f h'
  obtain ⟨_, e, e1, e2, _⟩ := O.on j k i hk h
  obtain ⟨_, e', e1', e2', _⟩ := O.on j' k' i hk' h'
  rw [e1] at e1'
  cases e1'
  rw [← e2, ← e2']
theorem GOk.move (O : GOk ks g) {j i : Nat} {k : Wk} {ws : List Int} {when : Int} (hk : ks[j]? = some k) (hc : g.cur[j]? = some (some i)) : GOk (ks.set j (k.move ws).1) (g.move j k when ws) := by
  obtain ⟨p1, e, p2, p3, p4, p5, p6⟩ := O.on j k i hk hc
  have hi : ∀ {j' i' : Nat}, g.cur[j']? = some (some i') → j' ≠ j → i' ≠ i := fun h n z => by subst z; exact n (O.inj h hc)
  rw [move_eq hc p2]
  have mb := O.mb _ (List.mem_of_getElem? hk)
  unfold Wk.move
  cases hh : k.hand with
  | none =>
    dsimp only
    refine ⟨by simp [O.clen], fun j' k' i' h1 h2 => ?_, fun j' k' h1 h2 => ?_, all_set O.mb mb, by simpa using O.nbl⟩
    · by_cases hj : j' = j
      · subst hj
        rw [gset_self hk] at h1
        cases h1
        have h2' : g.cur[j']? = some (some i') := h2
        rw [hc] at h2'
        cases h2'
        exact ⟨p1, _, gset_self p2, p3, rfl, p5, p6⟩
      · rw [gset_ne hj] at h1
        obtain ⟨q1, e', q2, q3⟩ := O.on j' k' i' h1 h2
        exact ⟨q1, e', by rw [gset_ne (hi h2 hj)]; exact q2, q3⟩
    · by_cases hj : j' = j
      · subst hj
        have h2' : g.cur[j']? = some none := h2
        rw [hc] at h2'
        cases h2'
      · rw [gset_ne hj] at h1
        exact O.off j' k' h1 h2
  | some x =>
    dsimp only
    have cl : (if k.laid + 1 < k.many then g.cur else g.cur.set j none).length = (ks.set j ({ k with hand := none, laid := k.laid + 1, on := decide (k.laid + 1 < k.many) })).length := by
      split <;> simp [O.clen]
    refine ⟨cl, fun j' k' i' h1 h2 => ?_, fun j' k' h1 h2 => ?_, all_set O.mb mb, by simpa using O.nbl⟩
    · by_cases hj : j' = j
      · subst hj
        rw [gset_self hk] at h1
        cases h1
        have h2' : (if k.laid + 1 < k.many then g.cur else g.cur.set j' none)[j']? = some (some i') := h2
        by_cases c : k.laid + 1 < k.many
        · rw [if_pos c, hc] at h2'
          cases h2'
          refine ⟨decide_eq_true c, _, gset_self p2, p3, rfl, ?_, c⟩
          show (((e.pu ++ [_]).length : Nat) : Int) = k.laid + 1
          rw [List.length_append]
          show ((e.pu.length + 1 : Nat) : Int) = k.laid + 1
          omega
        · rw [if_neg c, gset_self hc] at h2'
          cases h2'
      · rw [gset_ne hj] at h1
        have h2' : g.cur[j']? = some (some i') := by
          have h3 : (if k.laid + 1 < k.many then g.cur else g.cur.set j none)[j']? = some (some i') := h2
          by_cases c : k.laid + 1 < k.many
          · rw [if_pos c] at h3; exact h3
          · rw [if_neg c, gset_ne hj] at h3; exact h3
        obtain ⟨q1, e', q2, q3⟩ := O.on j' k' i' h1 h2'
        exact ⟨q1, e', by rw [gset_ne (hi h2' hj)]; exact q2, q3⟩
    · have h3 : (if k.laid + 1 < k.many then g.cur else g.cur.set j none)[j']? = some none := h2
      by_cases hj : j' = j
      · subst hj
        rw [gset_self hk] at h1
        cases h1
        by_cases c : k.laid + 1 < k.many
        · rw [if_pos c, hc] at h3
          cases h3
        · exact ⟨decide_eq_false c, rfl⟩
      · rw [gset_ne hj] at h1
        refine O.off j' k' h1 ?_
        by_cases c : k.laid + 1 < k.many
        · rw [if_pos c] at h3; exact h3
        · rw [if_neg c, gset_ne hj] at h3; exact h3
end
structure Step (F : List Addr) (H : Hp) (F' : List Addr) (H' : Hp) : Prop where
  kp : Kept F H H'
  gr : ∀ b ∈ F', b ∈ F ∨ H b = none
  fr : ∀ b, H' b = none → H b = none
theorem upd_none {H : Hp} {p b : Addr} {o : HO} (h : L2.upd H p o b = none) : H b = none := by
  by_cases e : b = p
  · rw [e, upd_same] at h; cases h
  · rw [upd_ne e] at h; exact h
theorem Kept.fr {as : List Addr} {H H' : Hp} (k : Kept as H H') (h : ∀ b ∈ as, H' b ≠ none) : ∀ b, H' b = none → H b = none := fun b hb => k.free hb (fun z => h b z hb)
theorem Step.refl (F : List Addr) (H : Hp) : Step F H F H := ⟨Kept.refl _ _, fun b h => .inl h, fun _ h => h⟩
theorem Step.same {F : List Addr} {H H' : Hp} (s : Same H H') : Step F H F H' := ⟨Kept.same s, fun b h => .inl h, fun _ h => Same.free s h⟩
theorem Step.of {F : List Addr} {H H' : Hp} (s : Kept F H H') (fr : ∀ b, H' b = none → H b = none) : Step F H F H' := ⟨s, fun b h => .inl h, fr⟩
theorem Step.trans {F F1 F2 : List Addr} {H H1 H2 : Hp} (a : Step F H F1 H1) (b : Step F1 H1 F2 H2) : Step F H F2 H2 := by
  refine ⟨fun c o h n => b.kp c o (a.kp c o h n) fun z => ?_, fun c hc => ?_, fun c h => a.fr c (b.fr c h)⟩
  · rcases a.gr c z with z | z
    · exact n z
    · rw [z] at h; cases h
  · rcases b.gr c hc with z | z
    · exact a.gr c z
    · exact .inr (a.fr c z)
theorem Step.apart {F F' : List Addr} {H H' : Hp} (a : Step F H F' H') {p : Addr} {o : HO} (h : H p = some o) (n : p ∉ F) : p ∉ F' := fun z => by
  rcases a.gr p z with z | z
  · exact n z
  · rw [z] at h; cases h
structure Stp (X F : List Addr) (H : Hp) (F' : List Addr) (H' : Hp) : Prop where
  kp : Kept (X ++ F) H H'
  gr : ∀ b ∈ F', b ∈ F ∨ H b = none
  fr : ∀ b, H' b = none → H b = none
theorem Stp.refl (X F : List Addr) (H : Hp) : Stp X F H F H := ⟨Kept.refl _ _, fun b h => .inl h, fun _ h => h⟩
theorem Stp.same {X F : List Addr} {H H' : Hp} (s : Same H H') : Stp X F H F H' := ⟨Kept.same s, fun b h => .inl h, fun _ h => Same.free s h⟩
theorem Stp.of {X F : List Addr} {H H' : Hp} (s : Kept (X ++ F) H H') (fr : ∀ b, H' b = none → H b = none) : Stp X F H F H' := ⟨s, fun b h => .inl h, fr⟩
theorem Stp.trans {X F F1 F2 : List Addr} {H H1 H2 : Hp} (a : Stp X F H F1 H1) (b : Stp X F1 H1 F2 H2) : Stp X F H F2 H2 := by
  refine ⟨fun c o h n => b.kp c o (a.kp c o h n) fun z => ?_, fun c hc => ?_, fun c h => a.fr c (b.fr c h)⟩
  · rcases List.mem_append.mp z with z | z
    · exact n (List.mem_append.mpr (.inl z))
    · rcases a.gr c z with z | z
      · exact n (List.mem_append.mpr (.inr z))
      · rw [z] at h; cases h
  · rcases b.gr c hc with z | z
    · exact a.gr c z
    · exact .inr (a.fr c z)
theorem Stp.mono {X Y F F' : List Addr} {H H' : Hp} (a : Stp X F H F' H') (h : ∀ x ∈ X, x ∈ Y) : Stp Y F H F' H' :=
  ⟨a.kp.mono (fun x hx => by
    rcases List.mem_append.mp hx with z | z
    · exact List.mem_append.mpr (.inl (h x z))
    · exact List.mem_append.mpr (.inr z)), a.gr, a.fr⟩
theorem Step.more {F F' : List Addr} {H H' : Hp} (a : Step F H F' H') (X : List Addr) : Stp X F H F' H' := ⟨a.kp.mono (fun x hx => List.mem_append.mpr (.inr hx)), a.gr, a.fr⟩
theorem Stp.apart {X F F' : List Addr} {H H' : Hp} (a : Stp X F H F' H') {p : Addr} {o : HO} (h : H p = some o) (n : p ∉ F) : p ∉ F' := fun z => by
  rcases a.gr p z with z | z
  · exact n z
  · rw [z] at h; cases h
theorem Stp.all {X F F' : List Addr} {H H' : Hp} (a : Stp X F H F' H') : Step (X ++ F) H (X ++ F') H' := ⟨a.kp, fun b hb => by
  rcases List.mem_append.mp hb with z | z
  · exact .inl (List.mem_append.mpr (.inl z))
  · rcases a.gr b z with z | z
    · exact .inl (List.mem_append.mpr (.inr z))
    · exact .inr z, a.fr⟩
structure TupsAt (H : Hp) (D : Addr) (ps : List Addr) (vss : List (List V)) : Prop where
  lst : H D = some (.lst (ps.map V.ref))
  len : ps.length = vss.length
  at_ : ∀ (j : Nat) (p : Addr) (vs : List V), ps[j]? = some p → vss[j]? = some vs → H p = some (.tup vs)
section
variable {H H' : Hp}
theorem tups_snoc {D p : Addr} {ps : List Addr} {vss : List (List V)} {vs : List V} (t : TupsAt H D ps vss) (h1 : H' D = some (.lst ((ps ++ [p]).map V.ref))) (h2 : H' p = some (.tup vs)) (kp : ∀ q us, H q = some (.tup us) → H' q = some (.tup us)) : TupsAt H' D (ps ++ [p]) (vss ++ [vs]) := by
  refine ⟨h1, by simp [t.len], fun j q us e1 e2 => ?_⟩
  by_cases hj : j < ps.length
  · rw [List.getElem?_append_left hj] at e1
    rw [List.getElem?_append_left (by rw [← t.len]; exact hj)] at e2
    exact kp _ _ (t.at_ j q us e1 e2)
  · have ej : j = ps.length := by
      have := (List.getElem?_eq_some_iff.mp e1).1
      rw [List.length_append] at this
      simp at this
      omega
    subst ej
    rw [List.getElem?_append_right (Nat.le_refl _), Nat.sub_self] at e1
    rw [List.getElem?_append_right (by rw [t.len]; exact Nat.le_refl _), t.len, Nat.sub_self] at e2
    have e5 : p = q := by simpa using e1
    have e6 : vs = us := by simpa using e2
    subst e5 e6
    exact h2
theorem TupsAt.snoc {D p : Addr} {ps : List Addr} {vss : List (List V)} {vs : List V} (t : TupsAt H D ps vss) (hp : H p = none) : TupsAt (upd (upd H p (.tup vs)) D (.lst ((ps ++ [p]).map V.ref))) D (ps ++ [p]) (vss ++ [vs]) := by
  refine tups_snoc t upd_same (by rw [upd_ne (Ne.symm (ne_of_none t.lst hp)), upd_same]) (fun q us e => ?_)
  have h1 : q ≠ D := ne_of e t.lst (by intro z; cases z)
  rw [upd_ne h1, upd_ne (ne_of_none e hp)]
  exact e
theorem TupsAt.keep {D : Addr} {ps : List Addr} {vss : List (List V)} (t : TupsAt H D ps vss) (s : Same H H') : TupsAt H' D ps vss := ⟨s _ _ t.lst, t.len, fun j p vs e1 e2 => s _ _ (t.at_ j p vs e1 e2)⟩
end
end SB

set_option Elab.async false
set_option linter.all false
set_option maxRecDepth 100000
set_option maxHeartbeats 2000000
namespace SB
open PySem L2
def notTup : HO → Bool
  | .tup _ => false | .frz _ _ => false | _ => true
structure GA where
  g : Addr
  dg : Addr
  pl : Addr
  ps : List Addr
structure DA where
  d : Addr
  dd : Addr
  l : Addr
  lb : Addr
  was : List (Addr × Addr)
  gas : List GA
def DA.foot (a : DA) : List Addr := a.d :: a.l :: a.lb :: (a.was.map (·.1) ++ (a.gas.map (·.g) ++ a.gas.map (·.pl)))
structure DLe (a a' : DA) : Prop where
  d : a'.d = a.d
  gs : ∃ r, a'.gas.map (·.g) = a.gas.map (·.g) ++ r
theorem DLe.refl (a : DA) : DLe a a := ⟨rfl, [], by simp⟩
theorem DLe.trans {a b c : DA} (x : DLe a b) (y : DLe b c) : DLe a c := by
  obtain ⟨x1, r, x2⟩ := x
  obtain ⟨y1, r', y2⟩ := y
  exact ⟨y1.trans x1, r ++ r', by rw [y2, x2, List.append_assoc]⟩
def puV (x : Int × Int) : List V := [.int x.1, .int x.2]
def goA (gas : List GA) : Option (Option Nat) → Option Addr
  | some (some i) => (gas[i]?).map (·.g)
  | _ => none
structure DevAt (K : PySem.W.Frag) (H : Hp) (a : DA) (ks : List Wk) (took : Bool) (g : GH) : Prop where
  ob : H a.d = some (.ins (cDevice K) a.dd (dvF ⟨a.l, took, a.lb⟩))
  lst : H a.l = some (.lst (a.was.map fun p => V.ref p.1))
  bg : H a.lb = some (.lst ((a.gas.drop g.nb).map fun x => V.ref x.g))
  wk : ∀ (j : Nat) (x : Addr × Addr) (k : Wk), a.was[j]? = some x → ks[j]? = some k → H x.1 = some (.ins (cWork K) x.2 (woF (k.wo (goA a.gas g.cur[j]?))))
  go : ∀ (i : Nat) (x : GA) (e : Go), a.gas[i]? = some x → g.G[i]? = some e → H x.g = some (.ins (cGoing K) x.dg (ggF ⟨(e.n : Int), e.hand, x.pl⟩)) ∧ TupsAt H x.pl x.ps (e.pu.map puV)
  len : a.was.length = ks.length
  glen : a.gas.length = g.G.length
  co : GOk ks g
  nw : (a.was.map (·.1)).Nodup
  ng : (a.gas.map (·.g)).Nodup
  nl : (a.l :: a.lb :: a.gas.map (·.pl)).Nodup
def WkOk (n : Nat) (k : Wk) : Prop := 0 < k.block ∧ (∀ i, k.mark = some i → 0 ≤ i ∧ i < n) ∧ ∀ f, k.follow = some f → 0 ≤ f
def isOn (ks : List Wk) (n : Int) : Bool := match ks[n.toNat]? with
  | some k => k.on
  | none => false
def takes (ms : List Bool) (wanted took : Bool) (k : Wk) : Bool := k.on && (!k.held ms && k.may wanted took)
def devMove (ks : List Wk) (took wanted : Bool) (ms : List Bool) (ws : List Int) : List Wk × Bool × List Int × Option (Int × Str × Int × Int) :=
  match ks.findIdx? (takes ms wanted took) with
  | none => (ks, false, ws, none)
  | some j => match ks[j]? with
    | none => (ks, false, ws, none)
    | some k => ((if (k.move ws).1.on = true then ks.set j (k.move ws).1 else match (k.move ws).1.follow with
        | none => ks.set j (k.move ws).1
        | some f => (ks.set j (k.move ws).1).modify f.toNat Wk.start), true, (k.move ws).2.1, some ((j : Int), (k.move ws).2.2))
def devG (ks : List Wk) (took wanted : Bool) (ms : List Bool) (ws : List Int) (when : Int) (g : GH) : GH := match ks.findIdx? (takes ms wanted took) with
  | none => g
  | some j => match ks[j]? with
    | none => g
    | some k => if (k.move ws).1.on = true then g.move j k when ws else match (k.move ws).1.follow with
        | none => g.move j k when ws
        | some f => (g.move j k when ws).start f.toNat
theorem at_ref {was : List (Addr × Addr)} {n : Int} {p : Addr × Addr} (h0 : 0 ≤ n) (h : was[n.toNat]? = some p) : atI (was.map fun p => V.ref p.1) n = some (.ref p.1) := by
  unfold atI ixN
  have h1 : n.toNat < was.length := (List.getElem?_eq_some_iff.mp h).1
  rw [if_pos h0, List.length_map, if_pos (by omega)]
  show (was.map _)[n.toNat]? = _
  rw [List.getElem?_map, h]
  rfl
theorem fs_ne {fs fs' : List (Str × V)} {f : Str} {v : V} (h : fs.lookup f = none) (h' : fs'.lookup f = some v) : fs ≠ fs' := fun z => by rw [z, h'] at h; cases h
theorem dv_no_begin (k : Dv) : (dvF k).lookup ("begin" : Str) = none := by kernel_rfl
theorem gg_no_begin (k : Gg) : (ggF k).lookup ("begin" : Str) = none := by kernel_rfl
theorem gg_no_works (k : Gg) : (ggF k).lookup ("works" : Str) = none := by kernel_rfl
theorem ins_ne_ins {H : Hp} {p q C dx C' dx' : Addr} {fs fs' : List (Str × V)} (h : H p = some (.ins C dx fs)) (h' : H q = some (.ins C' dx' fs')) (n : fs ≠ fs') : p ≠ q := fun z => by
  rw [z, h'] at h
  exact n (HO.ins.inj (Option.some.inj h)).2.2.symm
theorem lst_ne_ins {H : Hp} {p q : Addr} {xs : List V} {C dx : Addr} {fs : List (Str × V)} (h : H p = some (.lst xs)) (h' : H q = some (.ins C dx fs)) : p ≠ q := ne_of h h' (by intro z; cases z)
theorem ins_ne_lst {H : Hp} {p q : Addr} {xs : List V} {C dx : Addr} {fs : List (Str × V)} (h' : H q = some (.ins C dx fs)) (h : H p = some (.lst xs)) : q ≠ p := ne_of h' h (by intro z; cases z)
theorem map_set_id {α β : Type} {f : α → β} {l : List α} {i : Nat} {x y : α} (h : l[i]? = some x) (e : f y = f x) : (l.set i y).map f = l.map f := by
  rw [List.map_set, e]
  exact set_same (by rw [List.getElem?_map, h]; rfl)
theorem gas_g {l : List GA} {i : Nat} {y : GA} {ps : List Addr} (h : l[i]? = some y) : (l.set i { y with ps := ps }).map (·.g) = l.map (·.g) := map_set_id h rfl
theorem gas_pl {l : List GA} {i : Nat} {y : GA} {ps : List Addr} (h : l[i]? = some y) : (l.set i { y with ps := ps }).map (·.pl) = l.map (·.pl) := map_set_id h rfl
theorem gas_ref {l : List GA} {i : Nat} {y : GA} {ps : List Addr} (h : l[i]? = some y) : (l.set i { y with ps := ps }).map (fun x => V.ref x.g) = l.map (fun x => V.ref x.g) := map_set_id h rfl
section
variable {P : Program} {w : World} {K : PySem.W.Frag} {mg : Str → Option Value} {base : Heap}
variable {H H' : Hp} {a : DA} {ks : List Wk} {took : Bool} {g : GH}
theorem mem_of_map {α : Type} {f : α → Addr} {l : List α} {i : Nat} {x : α} (h : l[i]? = some x) : f x ∈ l.map f := List.mem_map.mpr ⟨x, List.mem_of_getElem? h, rfl⟩
theorem DA.inW {j : Nat} {x : Addr × Addr} (h : a.was[j]? = some x) : x.1 ∈ a.foot := by
  unfold DA.foot
  simp only [List.mem_cons, List.mem_append]
  exact .inr (.inr (.inr (.inl (mem_of_map (f := fun p : Addr × Addr => p.1) h))))
theorem DA.inG {j : Nat} {x : GA} (h : a.gas[j]? = some x) : x.g ∈ a.foot := by
  unfold DA.foot
  simp only [List.mem_cons, List.mem_append]
  exact .inr (.inr (.inr (.inr (.inl (mem_of_map (f := fun p : GA => p.g) h)))))
theorem DA.inP {j : Nat} {x : GA} (h : a.gas[j]? = some x) : x.pl ∈ a.foot := by
  unfold DA.foot
  simp only [List.mem_cons, List.mem_append]
  exact .inr (.inr (.inr (.inr (.inr (mem_of_map (f := fun p : GA => p.pl) h)))))
theorem DA.inD : a.d ∈ a.foot := by unfold DA.foot; simp
theorem DA.inL : a.l ∈ a.foot := by unfold DA.foot; simp
theorem DA.inB : a.lb ∈ a.foot := by unfold DA.foot; simp
theorem DevAt.get (D : DevAt K H a ks took g) {j : Nat} {k : Wk} (h : ks[j]? = some k) : ∃ x, a.was[j]? = some x ∧ H x.1 = some (.ins (cWork K) x.2 (woF (k.wo (goA a.gas g.cur[j]?)))) := by
  have h1 : j < ks.length := (List.getElem?_eq_some_iff.mp h).1
  have h2 : j < a.was.length := by rw [D.len]; exact h1
  exact ⟨a.was[j], List.getElem?_eq_getElem h2, D.wk j _ k (List.getElem?_eq_getElem h2) h⟩
theorem DevAt.getG (D : DevAt K H a ks took g) {i : Nat} {e : Go} (h : g.G[i]? = some e) : ∃ x, a.gas[i]? = some x ∧ H x.g = some (.ins (cGoing K) x.dg (ggF ⟨(e.n : Int), e.hand, x.pl⟩)) ∧ TupsAt H x.pl x.ps (e.pu.map puV) := by
  have h1 : i < g.G.length := (List.getElem?_eq_some_iff.mp h).1
  have h2 : i < a.gas.length := by rw [D.glen]; exact h1
  exact ⟨a.gas[i], List.getElem?_eq_getElem h2, D.go i _ e (List.getElem?_eq_getElem h2) h⟩
theorem DevAt.getW (D : DevAt K H a ks took g) {j : Nat} {x : Addr × Addr} (h : a.was[j]? = some x) : ∃ k, ks[j]? = some k ∧ H x.1 = some (.ins (cWork K) x.2 (woF (k.wo (goA a.gas g.cur[j]?)))) := by
  have h2 : j < ks.length := by rw [← D.len]; exact (List.getElem?_eq_some_iff.mp h).1
  exact ⟨_, List.getElem?_eq_getElem h2, D.wk j _ _ h (List.getElem?_eq_getElem h2)⟩
theorem DevAt.getA (D : DevAt K H a ks took g) {i : Nat} {x : GA} (h : a.gas[i]? = some x) : ∃ e, g.G[i]? = some e ∧ H x.g = some (.ins (cGoing K) x.dg (ggF ⟨(e.n : Int), e.hand, x.pl⟩)) ∧ TupsAt H x.pl x.ps (e.pu.map puV) := by
  have h2 : i < g.G.length := by rw [← D.glen]; exact (List.getElem?_eq_some_iff.mp h).1
  exact ⟨_, List.getElem?_eq_getElem h2, D.go i _ _ h (List.getElem?_eq_getElem h2)⟩
theorem DevAt.inF (D : DevAt K H a ks took g) : ∀ b ∈ a.foot, ∃ u, H b = some u ∧ notTup u = true := fun b hb => by
  unfold DA.foot at hb
  simp only [List.mem_cons, List.mem_append] at hb
  rcases hb with rfl | rfl | rfl | hb | hb | hb
  · exact ⟨_, D.ob, rfl⟩
  · exact ⟨_, D.lst, rfl⟩
  · exact ⟨_, D.bg, rfl⟩
  · obtain ⟨pr, hpr, e⟩ := List.mem_map.mp hb
    obtain ⟨i, hi, ei⟩ := List.mem_iff_getElem.mp hpr
    obtain ⟨k, _, h⟩ := D.getW (List.getElem?_eq_getElem hi)
    rw [ei, e] at h
    exact ⟨_, h, rfl⟩
  · obtain ⟨pr, hpr, e⟩ := List.mem_map.mp hb
    obtain ⟨i, hi, ei⟩ := List.mem_iff_getElem.mp hpr
    obtain ⟨k, _, h, _⟩ := D.getA (List.getElem?_eq_getElem hi)
    rw [ei, e] at h
    exact ⟨_, h, rfl⟩
  · obtain ⟨pr, hpr, e⟩ := List.mem_map.mp hb
    obtain ⟨i, hi, ei⟩ := List.mem_iff_getElem.mp hpr
    obtain ⟨k, _, _, h⟩ := D.getA (List.getElem?_eq_getElem hi)
    have h := h.lst
    rw [ei, e] at h
    exact ⟨_, h, rfl⟩
theorem TupsAt.stay {D : Addr} {ps : List Addr} {vss : List (List V)} {as : List Addr} (t : TupsAt H D ps vss) (k : Kept as H H') (h : D ∉ as) (hn : ∀ b ∈ as, ∃ u, H b = some u ∧ notTup u = true) : TupsAt H' D ps vss :=
  ⟨k _ _ t.lst h, t.len, fun j p vs e1 e2 => k _ _ (t.at_ j p vs e1 e2) fun z => by
    obtain ⟨u, hu, hu2⟩ := hn p z
    rw [t.at_ j p vs e1 e2] at hu
    cases hu
    cases hu2⟩
theorem DevAt.stay (D : DevAt K H a ks took g) {as : List Addr} (k : Kept as H H') (h : ∀ b ∈ a.foot, b ∉ as) (hn : ∀ b ∈ as, ∃ u, H b = some u ∧ notTup u = true) : DevAt K H' a ks took g :=
  ⟨k _ _ D.ob (h _ DA.inD), k _ _ D.lst (h _ DA.inL), k _ _ D.bg (h _ DA.inB), fun j x y e1 e2 => k _ _ (D.wk j x y e1 e2) (h _ (DA.inW e1)), fun i x e e1 e2 => ⟨k _ _ (D.go i x e e1 e2).1 (h _ (DA.inG e1)), (D.go i x e e1 e2).2.stay k (h _ (DA.inP e1)) hn⟩, D.len, D.glen, D.co, D.nw, D.ng, D.nl⟩
theorem DevAt.same (D : DevAt K H a ks took g) (s : Same H H') : DevAt K H' a ks took g := D.stay (Kept.same (as := []) s) (by simp) (by simp)
theorem DevAt.upd (D : DevAt K H a ks took g) {p : Addr} {u o : HO} (hp : H p = some u) (hu : notTup u = true) (h : p ∉ a.foot) : DevAt K (L2.upd H p o) a ks took g :=
  D.stay (as := [p]) ((Kept.refl _ H).put (by simp)) (fun b hb z => h (by
    have e : b = p := by simpa using z
    rw [← e]
    exact hb)) (fun b hb => by
    have e : b = p := by simpa using hb
    rw [e]
    exact ⟨_, hp, hu⟩)
theorem nd_at {α : Type} {f : α → Addr} {l : List α} (nd : (l.map f).Nodup) {i j : Nat} {x y : α} (h1 : l[i]? = some x) (h2 : l[j]? = some y) (e : f x = f y) : i = j :=
  nd_ix nd (by rw [List.getElem?_map, h1]; rfl) (by rw [List.getElem?_map, h2, e]; rfl)
theorem DevAt.dW (D : DevAt K H a ks took g) {j : Nat} {x : Addr × Addr} (h : a.was[j]? = some x) : a.d ≠ x.1 := by
  obtain ⟨k, _, e⟩ := D.getW h
  exact ins_ne_ins D.ob e (fs_ne (dv_no_begin _) (wo_begin _))
theorem DevAt.dG (D : DevAt K H a ks took g) {j : Nat} {x : GA} (h : a.gas[j]? = some x) : a.d ≠ x.g := by
  obtain ⟨k, _, e, _⟩ := D.getA h
  exact Ne.symm (ins_ne_ins e D.ob (fs_ne (gg_no_works _) (dv_works _)))
theorem DevAt.wG (D : DevAt K H a ks took g) {i j : Nat} {x : GA} {y : Addr × Addr} (h : a.gas[i]? = some x) (h' : a.was[j]? = some y) : x.g ≠ y.1 := by
  obtain ⟨_, _, e, _⟩ := D.getA h
  obtain ⟨_, _, e'⟩ := D.getW h'
  exact ins_ne_ins e e' (fs_ne (gg_no_begin _) (wo_begin _))
theorem DevAt.lbne (D : DevAt K H a ks took g) : a.lb ≠ a.l := fun z => by
  have := (List.nodup_cons.mp D.nl).1
  rw [← z] at this
  exact this List.mem_cons_self
theorem DevAt.plL (D : DevAt K H a ks took g) {j : Nat} {x : GA} (h : a.gas[j]? = some x) : x.pl ≠ a.l := fun z => (List.nodup_cons.mp D.nl).1 (List.mem_cons_of_mem _ (by rw [← z]; exact mem_of_map (f := fun p : GA => p.pl) h))
theorem DevAt.plB (D : DevAt K H a ks took g) {j : Nat} {x : GA} (h : a.gas[j]? = some x) : x.pl ≠ a.lb := fun z => (List.nodup_cons.mp (List.nodup_cons.mp D.nl).2).1 (by rw [← z]; exact mem_of_map (f := fun p : GA => p.pl) h)
theorem DevAt.npl (D : DevAt K H a ks took g) : (a.gas.map (·.pl)).Nodup := (List.nodup_cons.mp (List.nodup_cons.mp D.nl).2).2
theorem DevAt.setTook (D : DevAt K H a ks took g) {b : Bool} : DevAt K (L2.upd H a.d (.ins (cDevice K) a.dd (dvF ⟨a.l, b, a.lb⟩))) a ks b g := by
  have hl : a.l ≠ a.d := lst_ne_ins D.lst D.ob
  have hb : a.lb ≠ a.d := lst_ne_ins D.bg D.ob
  refine ⟨upd_same, by rw [upd_ne hl]; exact D.lst, by rw [upd_ne hb]; exact D.bg, fun j x k e1 e2 => ?_, fun i x e e1 e2 => ⟨?_, ?_⟩, D.len, D.glen, D.co, D.nw, D.ng, D.nl⟩
  · rw [upd_ne (Ne.symm (D.dW e1))]
    exact D.wk j x k e1 e2
  · rw [upd_ne (Ne.symm (D.dG e1))]
    exact (D.go i x e e1 e2).1
  · have t := (D.go i x e e1 e2).2
    refine t.stay (as := [a.d]) ((Kept.refl _ H).put (by simp)) (by simpa using lst_ne_ins t.lst D.ob) (fun b hb => ?_)
    have e : b = a.d := by simpa using hb
    rw [e]
    exact ⟨_, D.ob, rfl⟩
theorem DevAt.woken (D : DevAt K H a ks took g) {b : Addr} (hb : H b = none) : DevAt K (L2.upd (L2.upd H b (.lst [])) a.d (.ins (cDevice K) a.dd (dvF ⟨a.l, took, b⟩))) { a with lb := b } ks took { g with nb := g.G.length } := by
  have D1 : DevAt K (L2.upd H b (.lst [])) a ks took g := D.same (Same.new (Same.refl H) hb)
  have hl : a.l ≠ a.d := lst_ne_ins D.lst D.ob
  have bd : b ≠ a.d := Ne.symm (ne_of_none D.ob hb)
  have D2 : DevAt K (L2.upd (L2.upd H b (.lst [])) a.d (.ins (cDevice K) a.dd (dvF ⟨a.l, took, a.lb⟩))) a ks took g := D1.setTook
  have rd : ∀ {p : Addr} {o : HO}, p ≠ a.d → L2.upd H b (.lst []) p = some o → L2.upd (L2.upd H b (.lst [])) a.d (.ins (cDevice K) a.dd (dvF ⟨a.l, took, b⟩)) p = some o := fun hp h => by rw [upd_ne hp]; exact h
  have ed : a.gas.drop g.G.length = [] := by rw [← D.glen]; exact List.drop_length
  refine ⟨upd_same, rd hl D1.lst, ?_, fun j x k e1 e2 => rd (Ne.symm (D.dW e1)) (D1.wk j x k e1 e2), fun i x e e1 e2 => ⟨rd (Ne.symm (D.dG e1)) (D1.go i x e e1 e2).1, ?_⟩, D.len, D.glen, ⟨D.co.clen, D.co.on, D.co.off, D.co.mb, Nat.le_refl _⟩, D.nw, D.ng, ?_⟩
  · show L2.upd (L2.upd H b (.lst [])) a.d _ b = some (.lst ((a.gas.drop g.G.length).map _))
    rw [upd_ne bd, upd_same, ed]
    rfl
  · have t := (D1.go i x e e1 e2).2
    refine t.stay (as := [a.d]) ((Kept.refl _ _).put (by simp)) (by simpa using lst_ne_ins t.lst D1.ob) (fun b hb => ?_)
    have e : b = a.d := by simpa using hb
    rw [e]
    exact ⟨_, D1.ob, rfl⟩
  · have n1 := List.nodup_cons.mp D.nl
    have n2 := List.nodup_cons.mp n1.2
    refine List.nodup_cons.mpr ⟨fun z => ?_, List.nodup_cons.mpr ⟨fun z => ?_, n2.2⟩⟩
    · rcases List.mem_cons.mp z with z | z
      · exact (ne_of_none D.lst hb) z
      · exact n1.1 (List.mem_cons_of_mem _ z)
    · have z' : b ∈ a.gas.map (·.pl) := z
      obtain ⟨pr, hpr, e⟩ := List.mem_map.mp z'
      obtain ⟨i, hi, ei⟩ := List.mem_iff_getElem.mp hpr
      obtain ⟨_, _, _, h⟩ := D.getA (List.getElem?_eq_getElem hi)
      have h := h.lst
      rw [ei, e, hb] at h
      cases h
theorem goA_app {gas : List GA} {x : GA} {o : Option (Option Nat)} (h : ∀ i, o = some (some i) → i < gas.length) : goA (gas ++ [x]) o = goA gas o := by
  cases o with
  | none => rfl
  | some o =>
    cases o with
    | none => rfl
    | some i =>
      show ((gas ++ [x])[i]?).map _ = (gas[i]?).map _
      rw [List.getElem?_append_left (h i rfl)]
theorem goA_set {gas : List GA} {x y : GA} {i : Nat} {o : Option (Option Nat)} (h : gas[i]? = some x) (e : y.g = x.g) : goA (gas.set i y) o = goA gas o := by
  cases o with
  | none => rfl
  | some o =>
    cases o with
    | none => rfl
    | some j =>
      show ((gas.set i y)[j]?).map _ = (gas[j]?).map _
      by_cases z : j = i
      · subst z
        rw [gset_self h, h]
        show some y.g = some x.g
        rw [e]
      · rw [gset_ne z]
theorem cur_lt (D : DevAt K H a ks took g) {j i : Nat} {k : Wk} (h : ks[j]? = some k) (hc : g.cur[j]? = some (some i)) : i < a.gas.length := by
  obtain ⟨_, e, he, _⟩ := D.co.on j k i h hc
  rw [D.glen]
  exact (List.getElem?_eq_some_iff.mp he).1
theorem DevAt.started (D : DevAt K H a ks took g) {n : Nat} {x : Addr × Addr} {k : Wk} {p dp q : Addr} (hc : g.cur[n]? = some none) (hx : a.was[n]? = some x) (hk : ks[n]? = some k) (np : H p = none) (nq : H q = none) (pq : p ≠ q)
    (h1 : H' p = some (.ins (cGoing K) dp (ggF ⟨(n : Int), none, q⟩))) (h2 : H' q = some (.lst [])) (h3 : H' x.1 = some (.ins (cWork K) x.2 (woF (k.wo (some p))))) (h4 : H' a.lb = some (.lst (((a.gas.drop g.nb).map fun x => V.ref x.g) ++ [.ref p])))
    (kp : Kept [x.1, a.lb] H H') : DevAt K H' { a with gas := a.gas ++ [⟨p, dp, q, []⟩] } (ks.modify n Wk.start) took (g.start n) := by
  have co := D.co.start n
  have hx2 := D.wk n x k hx hk
  have nt : ∀ b ∈ [x.1, a.lb], ∃ u, H b = some u ∧ notTup u = true := fun b hb => by
    have e : b = x.1 ∨ b = a.lb := by simpa using hb
    rcases e with rfl | rfl
    · exact ⟨_, hx2, rfl⟩
    · exact ⟨_, D.bg, rfl⟩
  have kk : ∀ {b : Addr} {o : HO}, H b = some o → b ≠ x.1 → b ≠ a.lb → H' b = some o := fun h n1 n2 => kp _ _ h (by simp [n1, n2])
  rw [modify_set hk]
  rw [modify_set hk] at co
  rw [start_off hc] at co ⊢
  have ek : k.start.wo (some p) = k.wo (some p) := by
    unfold Wk.start
    split <;> rfl
  have ld : (a.gas ++ [⟨p, dp, q, []⟩] : List GA).drop g.nb = a.gas.drop g.nb ++ [⟨p, dp, q, []⟩] := by
    rw [List.drop_append_of_le_length (by rw [D.glen]; exact D.co.nbl)]
  refine ⟨kk D.ob (D.dW hx) (ins_ne_lst D.ob D.bg), kk D.lst (lst_ne_ins D.lst hx2) (Ne.symm D.lbne), ?_, fun j y k' e1 e2 => ?_, fun i y e e1 e2 => ?_, by show a.was.length = _; rw [List.length_set]; exact D.len, by simp [D.glen], co, D.nw, ?_, ?_⟩
  · show H' a.lb = some (.lst (((a.gas ++ [(⟨p, dp, q, []⟩ : GA)]).drop g.nb).map fun x => V.ref x.g))
    rw [ld, List.map_append]
    exact h4
  · show H' y.1 = some (.ins (cWork K) y.2 (woF (k'.wo (goA (a.gas ++ [⟨p, dp, q, []⟩]) (g.cur.set n (some g.G.length))[j]?))))
    by_cases hj : j = n
    · subst hj
      have e1' : a.was[j]? = some y := e1
      rw [hx] at e1'
      cases e1'
      rw [gset_self hk] at e2
      cases e2
      rw [gset_self hc, ← D.glen]
      show H' x.1 = some (.ins (cWork K) x.2 (woF (k.start.wo (((a.gas ++ [⟨p, dp, q, []⟩])[a.gas.length]?).map (·.g)))))
      rw [gend]
      show H' x.1 = some (.ins (cWork K) x.2 (woF (k.start.wo (some p))))
      rw [ek]
      exact h3
    · rw [gset_ne hj] at e2
      rw [gset_ne hj, goA_app (fun i hi => cur_lt D e2 hi)]
      have e3 := D.wk j y k' e1 e2
      exact kk e3 (fun z => hj (nd_at (f := fun p : Addr × Addr => p.1) D.nw e1 hx z)) (ins_ne_lst e3 D.bg)
  · by_cases hi : i < a.gas.length
    · have e1' : a.gas[i]? = some y := by
        have e1'' : (a.gas ++ [(⟨p, dp, q, []⟩ : GA)])[i]? = some y := e1
        rw [List.getElem?_append_left hi] at e1''
        exact e1''
      have e2' : g.G[i]? = some e := by
        have e2'' : (g.G ++ [(⟨n, none, []⟩ : Go)])[i]? = some e := e2
        rw [List.getElem?_append_left (by rw [← D.glen]; exact hi)] at e2''
        exact e2''
      obtain ⟨o1, o2⟩ := D.go i y e e1' e2'
      exact ⟨kk o1 (D.wG e1' hx) (ins_ne_lst o1 D.bg), o2.stay kp (by simp [lst_ne_ins o2.lst hx2, D.plB e1']) nt⟩
    · have e1'' : (a.gas ++ [(⟨p, dp, q, []⟩ : GA)])[i]? = some y := e1
      have ei : i = a.gas.length := by
        have := (List.getElem?_eq_some_iff.mp e1'').1
        rw [List.length_append] at this
        simp at this
        omega
      subst ei
      rw [gend] at e1''
      cases e1''
      have e2'' : (g.G ++ [(⟨n, none, []⟩ : Go)])[a.gas.length]? = some e := e2
      rw [D.glen, gend] at e2''
      cases e2''
      exact ⟨h1, h2, rfl, fun j t vs z => by simp at z⟩
  · show ((a.gas ++ [(⟨p, dp, q, []⟩ : GA)]).map (·.g)).Nodup
    rw [List.map_append]
    refine List.nodup_append.mpr ⟨D.ng, by simp, fun u hu b hb z => ?_⟩
    have eb : b = p := by simpa using hb
    subst eb
    subst z
    obtain ⟨pr, hpr, e⟩ := List.mem_map.mp hu
    obtain ⟨i, hi, ei⟩ := List.mem_iff_getElem.mp hpr
    obtain ⟨_, _, h, _⟩ := D.getA (List.getElem?_eq_getElem hi)
    rw [ei, e, np] at h
    cases h
  · have e : (a.l :: a.lb :: (a.gas ++ [(⟨p, dp, q, []⟩ : GA)]).map (·.pl)) = (a.l :: a.lb :: a.gas.map (·.pl)) ++ [q] := by simp
    show (a.l :: a.lb :: (a.gas ++ [(⟨p, dp, q, []⟩ : GA)]).map (·.pl)).Nodup
    rw [e]
    refine List.nodup_append.mpr ⟨D.nl, by simp, fun u hu b hb z => ?_⟩
    have eb : b = q := by simpa using hb
    subst eb
    subst z
    simp only [List.mem_cons] at hu
    rcases hu with rfl | rfl | hu
    · rw [D.lst] at nq; cases nq
    · rw [D.bg] at nq; cases nq
    · obtain ⟨pr, hpr, e⟩ := List.mem_map.mp hu
      obtain ⟨i, hi, ei⟩ := List.mem_iff_getElem.mp hpr
      obtain ⟨_, _, _, h⟩ := D.getA (List.getElem?_eq_getElem hi)
      have h := h.lst
      rw [ei, e, nq] at h
      cases h
theorem DevAt.onAt (D : DevAt K H a ks took g) {j : Nat} {k : Wk} (hk : ks[j]? = some k) (ho : k.on = true) : ∃ (i : Nat) (e : Go) (x : Addr × Addr) (y : GA), g.cur[j]? = some (some i) ∧ g.G[i]? = some e ∧ a.was[j]? = some x ∧ a.gas[i]? = some y ∧ e.n = j ∧ e.hand = k.hand ∧ (e.pu.length : Int) = k.laid ∧ k.laid < k.many ∧
    H x.1 = some (.ins (cWork K) x.2 (woF (k.wo (some y.g)))) ∧ H y.g = some (.ins (cGoing K) y.dg (ggF ⟨(j : Int), k.hand, y.pl⟩)) ∧ TupsAt H y.pl y.ps (e.pu.map puV) := by
  have hj : j < g.cur.length := by rw [D.co.clen]; exact (List.getElem?_eq_some_iff.mp hk).1
  have hc := List.getElem?_eq_getElem hj
  cases e : g.cur[j] with
  | none =>
    rw [e] at hc
    rw [(D.co.off j k hk hc).1] at ho
    cases ho
  | some i =>
    rw [e] at hc
    obtain ⟨_, e, e1, e2, e3, e4, e5⟩ := D.co.on j k i hk hc
    obtain ⟨x, x1, x2⟩ := D.get hk
    obtain ⟨y, y1, y2, y3⟩ := D.getG e1
    rw [hc] at x2
    have eg : goA a.gas (some (some i)) = some y.g := by
      show (a.gas[i]?).map _ = _
      rw [y1]
      rfl
    rw [eg] at x2
    rw [e2, e3] at y2
    exact ⟨i, e, x, y, hc, e1, x1, y1, e2, e3, e4, e5, x2, y2, y3⟩
theorem DevAt.fetched (D : DevAt K H a ks took g) {j i : Nat} {k : Wk} {e : Go} {y : GA} {p : Addr} {ws : List Int} {when : Int} (hk : ks[j]? = some k) (hn : k.hand = none) (hc : g.cur[j]? = some (some i)) (he : g.G[i]? = some e) (en : e.n = j) (hy : a.gas[i]? = some y)
    (f : FetchPost K H H' p y.g y.dg y.pl (j : Int) k ws) : DevAt K H' a (ks.set j (k.move ws).1) took (g.move j k when ws) := by
  have co := D.co.move (ws := ws) (when := when) hk hc
  obtain ⟨f1, f2, f3, f4⟩ := f
  obtain ⟨hy2, hy3⟩ := D.go i y e hy he
  have nt : ∀ b ∈ [y.g], ∃ u, H b = some u ∧ notTup u = true := fun b hb => by
    have e : b = y.g := by simpa using hb
    rw [e]
    exact ⟨_, hy2, rfl⟩
  have kk : ∀ {b : Addr} {o : HO}, H b = some o → b ≠ y.g → H' b = some o := fun h n1 => f4 _ _ h (by simp [n1])
  rw [move_eq hc he] at co ⊢
  unfold Wk.move at co ⊢
  rw [hn] at co ⊢
  dsimp only at co ⊢
  refine ⟨kk D.ob (D.dG hy), kk D.lst (lst_ne_ins D.lst hy2), kk D.bg (lst_ne_ins D.bg hy2), fun j' x k' e1 e2 => ?_, fun i' x e' e1 e2 => ?_, by rw [List.length_set]; exact D.len, by rw [List.length_set]; exact D.glen, co, D.nw, D.ng, D.nl⟩
  · have key : ∀ k0, ks[j']? = some k0 → k0.wo (goA a.gas g.cur[j']?) = k'.wo (goA a.gas g.cur[j']?) → H' x.1 = some (.ins (cWork K) x.2 (woF (k'.wo (goA a.gas g.cur[j']?)))) := fun k0 h0 hw => by
      rw [← hw]
      exact kk (D.wk j' x k0 e1 h0) (Ne.symm (D.wG hy e1))
    by_cases hj : j' = j
    · subst hj
      rw [gset_self hk] at e2
      cases e2
      exact key k hk rfl
    · rw [gset_ne hj] at e2
      exact key k' e2 rfl
  · by_cases hi : i' = i
    · subst hi
      rw [gset_self he] at e2
      cases e2
      rw [hy] at e1
      cases e1
      exact ⟨by rw [f3, en], hy3.stay f4 (by simpa using lst_ne_ins hy3.lst hy2) nt⟩
    · rw [gset_ne hi] at e2
      obtain ⟨o1, o2⟩ := D.go i' x e' e1 e2
      exact ⟨kk o1 (fun z => hi (nd_at (f := fun p : GA => p.g) D.ng e1 hy z)), o2.stay f4 (by simpa using lst_ne_ins o2.lst hy2) nt⟩
theorem DevAt.laid (D : DevAt K H a ks took g) {j i : Nat} {k : Wk} {e : Go} {x : Addr × Addr} {y : GA} {p t l : Addr} {ws : List Int} {when v : Int} {os : List V} (hk : ks[j]? = some k) (hn : k.hand = some v) (hc : g.cur[j]? = some (some i)) (he : g.G[i]? = some e) (en : e.n = j) (hx : a.was[j]? = some x) (hy : a.gas[i]? = some y)
    (hl : H l = some (.lst os)) (nl : l ∉ a.foot) (f : LayPost K H H' p t x.1 x.2 y.g y.dg y.pl l (j : Int) when k (y.ps.map V.ref) ws v) :
    DevAt K H' { a with gas := a.gas.set i { y with ps := y.ps ++ [t] } } (ks.set j (k.move ws).1) took (g.move j k when ws) := by
  have co := D.co.move (ws := ws) (when := when) hk hc
  obtain ⟨f1, f2, f3, f4, f5, f6, f7, f8, f9⟩ := f
  obtain ⟨hy2, hy3⟩ := D.go i y e hy he
  have hx2 := D.wk j x k hx hk
  have nt : ∀ b ∈ [x.1, y.g, y.pl, l], ∃ u, H b = some u ∧ notTup u = true := fun b hb => by
    simp only [List.mem_cons] at hb
    rcases hb with rfl | rfl | rfl | rfl | hb
    · exact ⟨_, hx2, rfl⟩
    · exact ⟨_, hy2, rfl⟩
    · exact ⟨_, hy3.lst, rfl⟩
    · exact ⟨_, hl, rfl⟩
    · cases hb
  have kk : ∀ {b : Addr} {o : HO}, H b = some o → b ∈ a.foot → b ≠ x.1 → b ≠ y.g → b ≠ y.pl → H' b = some o := fun h hf n1 n2 n3 => f9 _ _ h (by
    have n4 : _ ≠ l := fun z => nl (by rw [← z]; exact hf)
    simp [n1, n2, n3, n4])
  rw [move_eq hc he] at co ⊢
  unfold Wk.move at co ⊢
  rw [hn] at co ⊢
  dsimp only at co ⊢
  have eg : ∀ o, goA (a.gas.set i { y with ps := y.ps ++ [t] }) o = goA a.gas o := fun o => goA_set hy rfl
  refine ⟨kk D.ob DA.inD (D.dW hx) (D.dG hy) (ins_ne_lst D.ob hy3.lst), kk D.lst DA.inL (lst_ne_ins D.lst hx2) (lst_ne_ins D.lst hy2) (Ne.symm (D.plL hy)), ?_, fun j' z k' e1 e2 => ?_, fun i' z e' e1 e2 => ?_, by rw [List.length_set]; exact D.len, by rw [List.length_set, List.length_set]; exact D.glen, co, D.nw, ?_, ?_⟩
  · have e5 : ((a.gas.set i { y with ps := y.ps ++ [t] }).drop g.nb).map (fun x => V.ref x.g) = (a.gas.drop g.nb).map (fun x => V.ref x.g) := by
      rw [List.map_drop, List.map_drop, gas_ref hy]
    show H' a.lb = some (.lst (((a.gas.set i { y with ps := y.ps ++ [t] }).drop g.nb).map fun x => V.ref x.g))
    rw [e5]
    exact kk D.bg DA.inB (lst_ne_ins D.bg hx2) (lst_ne_ins D.bg hy2) (Ne.symm (D.plB hy))
  · show H' z.1 = some (.ins (cWork K) z.2 (woF (k'.wo (goA (a.gas.set i { y with ps := y.ps ++ [t] }) (if k.laid + 1 < k.many then g.cur else g.cur.set j none)[j']?))))
    rw [eg]
    by_cases hj : j' = j
    · subst hj
      rw [gset_self hk] at e2
      cases e2
      rw [hx] at e1
      cases e1
      have ego : goA a.gas (if k.laid + 1 < k.many then g.cur else g.cur.set j' none)[j']? = (if k.laid + 1 < k.many then some y.g else none) := by
        by_cases c : k.laid + 1 < k.many
        · rw [if_pos c, if_pos c, hc]
          show (a.gas[i]?).map _ = _
          rw [hy]
          rfl
        · rw [if_neg c, if_neg c, gset_self hc]
          rfl
      rw [ego]
      exact f7
    · rw [gset_ne hj] at e2
      have ec : (if k.laid + 1 < k.many then g.cur else g.cur.set j none)[j']? = g.cur[j']? := by
        by_cases c : k.laid + 1 < k.many
        · rw [if_pos c]
        · rw [if_neg c, gset_ne hj]
      rw [ec]
      have e3 := D.wk j' z k' e1 e2
      exact kk e3 (DA.inW e1) (fun u => hj (nd_at (f := fun p : Addr × Addr => p.1) D.nw e1 hx u)) (Ne.symm (D.wG hy e1)) (ins_ne_lst e3 hy3.lst)
  · by_cases hi : i' = i
    · subst hi
      rw [gset_self he] at e2
      cases e2
      have e1' : (a.gas.set i' { y with ps := y.ps ++ [t] })[i']? = some z := e1
      rw [gset_self hy] at e1'
      cases e1'
      refine ⟨by show H' y.g = some (.ins (cGoing K) y.dg (ggF ⟨(e.n : Int), none, y.pl⟩)); rw [f6, en], ?_⟩
      show TupsAt H' y.pl (y.ps ++ [t]) ((e.pu ++ [(when, (k.goal + k.laid) % ws.length)]).map puV)
      rw [List.map_append]
      refine tups_snoc hy3 (by rw [f5, List.map_append]; rfl) f4 (fun u us hu => f9 _ _ hu fun hb => ?_)
      obtain ⟨o, ho, ho2⟩ := nt u hb
      rw [hu] at ho
      cases ho
      cases ho2
    · rw [gset_ne hi] at e2
      have e1' : (a.gas.set i { y with ps := y.ps ++ [t] })[i']? = some z := e1
      rw [gset_ne hi] at e1'
      obtain ⟨o1, o2⟩ := D.go i' z e' e1' e2
      have npl : z.pl ≠ y.pl := fun u => hi (nd_at (f := fun p : GA => p.pl) D.npl e1' hy u)
      have nll : z.pl ≠ l := fun u => nl (by rw [← u]; exact DA.inP e1')
      exact ⟨kk o1 (DA.inG e1') (D.wG e1' hx) (fun u => hi (nd_at (f := fun p : GA => p.g) D.ng e1' hy u)) (ins_ne_lst o1 hy3.lst), o2.stay f9 (by simp [lst_ne_ins o2.lst hx2, lst_ne_ins o2.lst hy2, npl, nll]) nt⟩
  · show ((a.gas.set i { y with ps := y.ps ++ [t] }).map (·.g)).Nodup
    rw [gas_g hy]
    exact D.ng
  · show (a.l :: a.lb :: (a.gas.set i { y with ps := y.ps ++ [t] }).map (·.pl)).Nodup
    rw [gas_pl hy]
    exact D.nl
theorem foot_set {i : Nat} {y : GA} {t : Addr} (hy : a.gas[i]? = some y) : ({ a with gas := a.gas.set i { y with ps := y.ps ++ [t] } } : DA).foot = a.foot := by
  unfold DA.foot
  show a.d :: a.l :: a.lb :: (a.was.map (·.1) ++ ((a.gas.set i { y with ps := y.ps ++ [t] }).map (·.g) ++ (a.gas.set i { y with ps := y.ps ++ [t] }).map (·.pl))) = _
  rw [gas_g hy, gas_pl hy]
theorem foot_new {x : GA} {b : Addr} (h : b ∈ ({ a with gas := a.gas ++ [x] } : DA).foot) : b ∈ a.foot ∨ b = x.g ∨ b = x.pl := by
  unfold DA.foot at h ⊢
  simp only [List.mem_cons, List.mem_append, List.map_append, List.map_cons, List.map_nil, List.not_mem_nil, or_false] at h ⊢
  rcases h with h | h | h | h | (h | h) | (h | h)
  · exact .inl (.inl h)
  · exact .inl (.inr (.inl h))
  · exact .inl (.inr (.inr (.inl h)))
  · exact .inl (.inr (.inr (.inr (.inl h))))
  · exact .inl (.inr (.inr (.inr (.inr (.inl h)))))
  · exact .inr (.inl h)
  · exact .inl (.inr (.inr (.inr (.inr (.inr h)))))
  · exact .inr (.inr h)
end
end SB

set_option Elab.async false
set_option linter.all false
set_option maxRecDepth 100000
set_option maxHeartbeats 2000000
namespace SB
open PySem L2
section
variable {P : Program} {w : World} {K : PySem.W.Frag} {mg : Str → Option Value} {base : Heap}
variable {H H' : Hp} {a : DA} {ks : List Wk} {took : Bool} {g : GH}
theorem DevAt.onV (D : DevAt K H a ks took g) {j : Nat} {k : Wk} (hk : ks[j]? = some k) : (!decide (oA (goA a.gas g.cur[j]?) = V.non)) = k.on := by
  have hj : j < g.cur.length := by rw [D.co.clen]; exact (List.getElem?_eq_some_iff.mp hk).1
  have hc := List.getElem?_eq_getElem hj
  cases e : g.cur[j] with
  | none =>
    rw [e] at hc
    rw [hc, (D.co.off j k hk hc).1]
    rfl
  | some i =>
    rw [e] at hc
    obtain ⟨o, e, e1, _⟩ := D.co.on j k i hk hc
    obtain ⟨y, y1, _⟩ := D.getG e1
    have eg : goA a.gas (some (some i)) = some y.g := by
      show (a.gas[i]?).map _ = _
      rw [y1]
      rfl
    rw [hc, eg, o]
    rfl
def sp_Device_is_on (K : PySem.W.Frag) : Sp := fun vs H Q _ => ∃ (a : DA) (ks : List Wk) (took : Bool) (g : GH) (n : Int), vs = [.ref a.d, .int n] ∧ DevAt K H a ks took g ∧ 0 ≤ n ∧ Q (.bl (isOn ks n)) H
theorem ok_Device_is_on (T : T w K mg) : FnR P w K mg base CX0 1 (He.ma K (He.ga K "Device") "is_on") (sp_Device_is_on K) := by
  obtain ⟨fd, F⟩ := T.f_Device_is_on
  refine F.r sc_Device_is_on (fun _ _ _ _ _ _ us hl => match us, hl with | [_, _], _ => rfl) (fun vs H Q E h => ?_) (fun cdv A outer s H vs Q E hr h => ?_)
  · obtain ⟨_, _, _, _, _, rfl, _⟩ := h
    rfl
  · obtain ⟨a, ks, took, g, n, rfl, D, hn, q⟩ := h
    refine ⟨_, (pss_one (ps_ret (pe_and (pe_cmpR op_lt (pv 1) (pe_callB call_len_seq rfl T.u_len PySem.boot_len (pa_cons (pe_fld (pv 0) rfl) pa_nil)) (nomark _)) (pe_one (pe_cmp (pc_notN (pe_fld (pe_ix ix_list (pe_fld (pv 0) rfl) (pv 1) (fun _ _ => rfl)) rfl))))))), ?_⟩
    refine ⟨_, rfl, ?_⟩ -- number
    refine ⟨_, rfl, _, _, _, _, _, rfl, D.ob, T.cl_Device, T.n_Device_works, dv_works _, ?_⟩
    refine ⟨_, _, rfl, .inl (SqL.of D.lst), ?_⟩ -- len
    refine ⟨_, _, rfl, rfl, ?_⟩ -- number < len(self.works)
    refine ⟨_, rfl, ?_⟩
    rw [List.length_map, D.len]
    unfold isOn at q
    refine ite2 (fun c1 => ?_) (fun c1 => ?_)
    · have c2 : n < ks.length := of_decide_eq_true c1
      have e1 : ks[n.toNat]? = some ks[n.toNat] := List.getElem?_eq_getElem (by omega)
      rw [e1] at q
      obtain ⟨x, e2, e3⟩ := D.get e1
      refine ⟨_, rfl, _, _, _, _, _, rfl, D.ob, T.cl_Device, T.n_Device_works, dv_works _, ?_⟩
      refine ⟨_, rfl, ?_⟩ -- number
      refine ⟨_, _, _, _, rfl, rfl, SqL.of D.lst, at_ref hn e2, ?_⟩ -- self.works[number]
      refine ⟨_, _, _, _, _, rfl, e3, T.cl_Work, T.n_Work_going, wo_going _, ?_⟩
      have ev := D.onV e1
      show Q (.bl (!decide (oA (goA a.gas g.cur[n.toNat]?) = V.non))) H
      rw [ev]
      exact q
    · have c2 : ¬ n < ks.length := fun z => c1 (decide_eq_true z)
      have e1 : ks[n.toNat]? = none := List.getElem?_eq_none (by omega)
      rw [e1] at q
      exact q
def sp_Device_start (K : PySem.W.Frag) : Sp := fun vs H Q _ => ∃ (a : DA) (ks : List Wk) (took : Bool) (g : GH) (n : Int), vs = [.ref a.d, .int n] ∧ DevAt K H a ks took g ∧ 0 ≤ n ∧ g.G.length < g.nb + 1000 ∧
  ∀ H' a', DLe a a' → DevAt K H' a' (ks.modify n.toNat Wk.start) took (g.start n.toNat) → Step a.foot H a'.foot H' → Q .non H'
theorem ok_Device_start (T : T w K mg) : FnR P w K mg base CX0 3 (He.ma K (He.ga K "Device") "start") (sp_Device_start K) := by
  have F_Going_init : FnR P w K mg base CX0 1 _ _ := ok_Going_init T
  obtain ⟨fd, F⟩ := T.f_Device_start
  refine F.r sc_Device_start (fun _ _ _ _ _ _ us hl => match us, hl with | [_, _], _ => rfl) (fun vs H Q E h => ?_) (fun cdv A outer s H vs Q E hr h => ?_)
  · obtain ⟨_, _, _, _, _, rfl, _⟩ := h
    rfl
  · obtain ⟨a, ks, took, g, n, rfl, D, hn, hb, q⟩ := h
    refine ⟨_, (pss_cons (ps_if (pt_cmpR op_ge (pv 1) (pe_callB call_len_seq rfl T.u_len PySem.boot_len (pa_cons (pe_fld (pv 0) rfl) pa_nil)) (nomark _))
      (pss_one ps_retN)
      pss_nil)
      (pss_cons (ps_set (i := 2) sc_Device_start.nd rfl (Or.inl rfl) (pe_ix ix_list (pe_fld (pv 0) rfl) (pv 1) (fun _ _ => rfl)))
      (pss_one (ps_if (pt_cmp (pc_isN (pe_fld (pv 2) rfl)))
      (pss_cons (ps_fld (pv 2) (pe_mkR T.mk_Going F_Going_init (hr.mono (by decide)) rfl T.g_Going (pa_cons (pv 1) pa_nil)) rfl)
      (pss_one (ps_expr (pe_bm PySem.F.plainAttrs_list PySem.F.slot_list_append PySem.F.type_list_append mt_append (pe_fld (pv 0) rfl) (pa_cons (pe_fld (pv 2) rfl) pa_nil)))))
      pss_nil)))), ?_⟩
    refine ⟨_, rfl, ?_⟩ -- number
    refine ⟨_, rfl, _, _, _, _, _, rfl, D.ob, T.cl_Device, T.n_Device_works, dv_works _, ?_⟩
    refine ⟨_, _, rfl, .inl (SqL.of D.lst), ?_⟩ -- len
    refine ⟨_, _, rfl, rfl, ?_⟩ -- number >= len(self.works)
    refine ⟨_, rfl, ?_⟩ -- test
    rw [List.length_map, D.len]
    refine ite2 (fun c1 => ?_) (fun c1 => ?_)
    · have c2 : n ≥ ks.length := of_decide_eq_true c1
      have e1 : g.cur[n.toNat]? = none := List.getElem?_eq_none (by rw [D.co.clen]; omega)
      refine q H a (DLe.refl _) ?_ (Step.refl _ _)
      rw [start_none e1, modify_out (by omega)]
      exact D
    · have c2 : ¬ n ≥ ks.length := fun z => c1 (decide_eq_true z)
      have e1 : ks[n.toNat]? = some ks[n.toNat] := List.getElem?_eq_getElem (by omega)
      generalize ek : ks[n.toNat] = k at e1
      obtain ⟨x, e2, e3⟩ := D.get e1
      refine ⟨_, rfl, _, _, _, _, _, rfl, D.ob, T.cl_Device, T.n_Device_works, dv_works _, ?_⟩
      refine ⟨_, rfl, ?_⟩ -- number
      refine ⟨_, _, _, _, rfl, rfl, SqL.of D.lst, at_ref hn e2, ?_⟩ -- self.works[number]
      refine ⟨_, rfl, _, _, _, _, _, rfl, e3, T.cl_Work, T.n_Work_going, wo_going _, ?_⟩
      refine ⟨_, rfl, ?_⟩ -- test
      have hj : n.toNat < g.cur.length := by rw [D.co.clen]; omega
      have hc := List.getElem?_eq_getElem hj
      cases eo : g.cur[n.toNat] with
      | some i =>
        rw [eo] at hc
        obtain ⟨o, e, e4, _⟩ := D.co.on n.toNat k i e1 hc
        obtain ⟨y, y1, _⟩ := D.getG e4
        have eg : goA a.gas (some (some i)) = some y.g := by
          show (a.gas[i]?).map _ = _
          rw [y1]
          rfl
        have ev : (k.wo (goA a.gas g.cur[n.toNat]?)).going = some y.g := by rw [hc]; exact eg
        rw [ev]
        refine iteF ?_
        refine q H a (DLe.refl _) ?_ (Step.refl _ _)
        rw [start_on hc, D.co.start_same (by rw [hc]; simp)]
        exact D
      | none =>
        rw [eo] at hc
        have ev : (k.wo (goA a.gas g.cur[n.toNat]?)).going = none := by rw [hc]; rfl
        rw [ev]
        rw [hc] at e3
        refine iteT ?_
        refine ⟨_, rfl, ?_⟩ -- number
        intro p dp np ndp ne
        have s1 : Same H (upd (upd H dp (.own p)) p (.ins (cGoing K) dp [])) := fun b o e => by
          rw [upd_ne (ne_of_none e np), upd_ne (ne_of_none e ndp)]
          exact e
        refine ⟨p, dp, n, rfl, upd_same, fun H2 r hr1 hr2 hp2 k2 => ⟨rfl, ?_⟩⟩ -- Going(number)
        have s2 : Same H H2 := fun b o e => k2 b o (s1 b o e) (by simpa using ne_of_none e np)
        have nr : H r = none := Same.free s1 hr1
        have rp : p ≠ r := fun z => by rw [← z, upd_same] at hr1; cases hr1
        have xp : x.1 ≠ p := ne_of_none e3 np
        have xr : x.1 ≠ r := ne_of_none e3 nr
        refine stf (s2 _ _ e3) T.cl_Work T.n_Work_going (wo_len _) (wo_put_goingS _ _) ?_ -- work.going = Going(number)
        generalize e6 : upd H2 x.1 _ = H3
        have hx3 : H3 x.1 = some (.ins (cWork K) x.2 (woF (k.wo (some p)))) := by rw [← e6]; exact upd_same
        have hd3 : H3 a.d = some (.ins (cDevice K) a.dd (dvF ⟨a.l, took, a.lb⟩)) := by rw [← e6, upd_ne (D.dW e2)]; exact s2 _ _ D.ob
        have hlb3 : H3 a.lb = some (.lst ((a.gas.drop g.nb).map fun x => V.ref x.g)) := by rw [← e6, upd_ne (lst_ne_ins D.bg e3)]; exact s2 _ _ D.bg
        have hp3 : H3 p = some (.ins (cGoing K) dp (ggF ⟨n, none, r⟩)) := by rw [← e6, upd_ne (Ne.symm xp)]; exact hp2
        have hr3 : H3 r = some (.lst []) := by rw [← e6, upd_ne (Ne.symm xr)]; exact hr2
        have k3 : Kept [x.1, a.lb] H H3 := by rw [← e6]; exact (Kept.same s2).put (by simp)
        refine ⟨_, rfl, _, _, _, _, _, rfl, hd3, T.cl_Device, T.n_Device_begun, dv_begun _, ?_⟩
        refine ⟨.inl ⟨rfl, _, SqL.of hlb3⟩, ?_⟩
        refine ⟨_, rfl, _, _, _, _, _, rfl, hx3, T.cl_Work, T.n_Work_going, wo_going _, ?_⟩
        refine ⟨_, _, _, rfl, rfl, hlb3, ?_, ?_⟩ -- append
        · rw [List.length_map, List.length_drop, D.glen]
          have := D.co.nbl
          show g.G.length - g.nb < 16777216
          omega
        · have lbx : a.lb ≠ x.1 := lst_ne_ins D.bg e3
          have lbp : a.lb ≠ p := ne_of_none D.bg np
          have lbr : a.lb ≠ r := ne_of_none D.bg nr
          have en : (n.toNat : Int) = n := by omega
          refine q _ { a with gas := a.gas ++ [⟨p, dp, r, []⟩] } ⟨rfl, [p], by simp⟩ (D.started (n := n.toNat) hc e2 e1 np nr rp ?_ ?_ ?_ upd_same (k3.put (by simp))) ⟨?_, fun b hb => ?_, fun b h => Same.free s2 (by have := upd_none h; rw [← e6] at this; exact upd_none this)⟩
          · rw [upd_ne (Ne.symm lbp), en]; exact hp3
          · rw [upd_ne (Ne.symm lbr)]; exact hr3
          · rw [upd_ne (Ne.symm lbx)]; exact hx3
          · refine (k3.put (by simp)).mono (fun z hz => ?_)
            have e : z = x.1 ∨ z = a.lb := by simpa using hz
            rcases e with rfl | rfl
            · exact DA.inW e2
            · exact DA.inB
          · rcases foot_new hb with h | h | h
            · exact .inl h
            · exact .inr (by rw [h]; exact np)
            · exact .inr (by rw [h]; exact nr)
def startAll (ks : List Wk) (ns : List Int) : List Wk := ns.foldl (fun ks n => ks.modify n.toNat Wk.start) ks
def GH.startAll (g : GH) (ns : List Int) : GH := ns.foldl (fun g n => g.start n.toNat) g
theorem GH.start_len {g : GH} {n : Nat} : (g.start n).G.length ≤ g.G.length + 1 ∧ (g.start n).nb = g.nb := by
  unfold GH.start
  split
  · simp
  · simp
theorem GH.startAll_len : ∀ {ns : List Int} {g : GH}, (g.startAll ns).G.length ≤ g.G.length + ns.length ∧ (g.startAll ns).nb = g.nb
  | [], g => ⟨Nat.le_refl _, rfl⟩
  | n :: r, g => by
    have h1 := GH.start_len (g := g) (n := n.toNat)
    have h2 := GH.startAll_len (ns := r) (g := g.start n.toNat)
    show ((g.start n.toNat).startAll r).G.length ≤ g.G.length + (r.length + 1) ∧ ((g.start n.toNat).startAll r).nb = g.nb
    omega
def sp_Device_wake (K : PySem.W.Frag) : Sp := fun vs H Q _ => ∃ (a : DA) (ks : List Wk) (took : Bool) (g : GH) (al : Addr) (ns : List Int), vs = [.ref a.d, .ref al] ∧ DevAt K H a ks took g ∧ H al = some (.lst (ns.map V.int)) ∧ al ∉ a.foot ∧ ns.length ≤ 8 ∧ (∀ n ∈ ns, 0 ≤ n) ∧
  ∀ H' a', DLe a a' → DevAt K H' a' (startAll ks ns) took (({ g with nb := g.G.length } : GH).startAll ns) → Step a.foot H a'.foot H' → Q .non H'
theorem ok_Device_wake (T : T w K mg) : FnR P w K mg base CX0 4 (He.ma K (He.ga K "Device") "wake") (sp_Device_wake K) := by
  have F_Device_start : FnR P w K mg base CX0 3 _ _ := ok_Device_start T
  obtain ⟨fd, F⟩ := T.f_Device_wake
  refine F.r sc_Device_wake (fun _ _ _ _ _ _ us hl => match us, hl with | [_, _], _ => rfl) (fun vs H Q E h => ?_) (fun cdv A outer s H vs Q E hr h => ?_)
  · obtain ⟨_, _, _, _, _, _, rfl, _⟩ := h
    rfl
  · obtain ⟨a, ks, took, g, al, ns, rfl, D, hal, nal, h8, hn, q⟩ := h
    refine ⟨_, (pss_cons (ps_fld (pv 0) (pe_lst pa_nil) rfl)
      (pss_one (ps_for PassesOwn.never rfl (pi_list (pv 1)) (pg_name (i := 2) sc_Device_wake.nd rfl (Or.inl rfl))
      (pss_one (ps_expr (pe_mthR (pv 0) T.cl_Device T.m_Device_start F_Device_start (hr.mono (by decide)) (pa_cons (pv 2) pa_nil))))))), ?_⟩
    refine ⟨by show 0 ≤ sizeLine; decide, fun b hb => ?_⟩
    have bd : a.d ≠ b := ne_of_none D.ob hb
    refine stf (by rw [upd_ne bd]; exact D.ob) T.cl_Device T.n_Device_begun (dv_len _) (dv_put_begun _ _) ?_
    have ab : al ≠ b := ne_of_none hal hb
    have ad : al ≠ a.d := fun z => nal (by rw [z]; exact DA.inD)
    generalize e6 : upd (upd H b (.lst [])) a.d _ = H1
    have D1 : DevAt K H1 { a with lb := b } ks took { g with nb := g.G.length } := by rw [← e6]; exact D.woken hb
    have s1 : Step a.foot H ({ a with lb := b } : DA).foot H1 := by
      rw [← e6]
      refine ⟨((Kept.refl _ H).new hb).put DA.inD, fun z hz => ?_, fun z h => upd_none (upd_none h)⟩
      unfold DA.foot at hz ⊢
      simp only [List.mem_cons] at hz ⊢
      rcases hz with h | h | h | h
      · exact .inl (.inl h)
      · exact .inl (.inr (.inl h))
      · exact .inr (by rw [h]; exact hb)
      · exact .inl (.inr (.inr (.inr h)))
    have hal1 : H1 al = some (.lst (ns.map V.int)) := by rw [← e6, upd_ne ad, upd_ne ab]; exact hal
    have nal1 : al ∉ ({ a with lb := b } : DA).foot := s1.apart hal nal
    refine ⟨_, rfl, al, rfl, ⟨_, SqL.of hal1⟩, for_list (K := K) (a := al) (xs := ns.map V.int) (fun i σ H2 => ∃ v2 a2, σ = [some (.ref a.d), some (.ref al), v2] ∧ DLe a a2 ∧ DevAt K H2 a2 (startAll ks (ns.take i)) took (({ g with nb := g.G.length } : GH).startAll (ns.take i)) ∧ Step a.foot H a2.foot H2 ∧ H2 al = some (.lst (ns.map V.int)))
      ⟨none, { a with lb := b }, rfl, ⟨rfl, [], by simp⟩, D1, s1, hal1⟩ (fun i σ H2 _ ⟨_, _, _, _, _, _, h⟩ => SqL.of h) ?_ ?_⟩
    · rintro i x σ H2 hx ⟨v2, a2, rfl, ad2, D2, s2, hal2⟩
      rw [List.getElem?_map] at hx
      cases ht : ns[i]? with
      | none => rw [ht] at hx; cases hx
      | some n =>
        rw [ht] at hx
        cases hx
        have hn0 := hn n (List.mem_of_getElem? ht)
        refine ⟨_, rfl, ?_⟩
        refine ⟨_, _, _, rfl, by rw [← ad2.d]; exact D2.ob, dv_no_start _, ?_⟩
        refine ⟨_, rfl, ?_⟩
        have et : ns.take (i + 1) = ns.take i ++ [n] := by
          rw [List.take_add_one, ht]
          rfl
        have hl := GH.startAll_len (ns := ns.take i) (g := ({ g with nb := g.G.length } : GH))
        have hlt : (ns.take i).length ≤ 8 := by rw [List.length_take]; omega
        have hg : (({ g with nb := g.G.length } : GH)).G.length = g.G.length := rfl
        have hnb : (({ g with nb := g.G.length } : GH)).nb = g.G.length := rfl
        refine ⟨a2, _, _, _, n, by rw [ad2.d], D2, hn0, by rw [hl.2, hnb]; rw [hg] at hl; omega, fun H3 a3 ad3 D3 s3 => ?_⟩
        refine ⟨_, a3, rfl, ad2.trans ad3, ?_, s2.trans s3, ?_⟩
        · rw [et]
          unfold startAll GH.startAll
          rw [List.foldl_append, List.foldl_append]
          exact D3
        · exact s3.kp _ _ hal2 (s2.apart hal nal)
    · rintro σ H2 ⟨v2, a2, rfl, ad2, D2, s2, _⟩
      rw [List.length_map, List.take_length] at D2
      exact q H2 a2 ad2 D2 s2
def optN : Option Nat → V
  | none => .non
  | some j => .int (j : Int)
def sp_Device_taker (K : PySem.W.Frag) : Sp := fun vs H Q _ => ∃ (a : DA) (m : Addr) (ks : List Wk) (took wanted : Bool) (g : GH) (ms : List Bool), vs = [.ref a.d, .bl wanted, .ref m] ∧ DevAt K H a ks took g ∧ H m = some (.lst (ms.map V.bl)) ∧ (∀ k ∈ ks, WkOk ms.length k) ∧
  ∀ H', Same H H' → Q (optN (ks.findIdx? (takes ms wanted took))) H'
theorem may_eq {k : Wk} {o : Option Addr} {b c : Bool} : mayK (k.wo o).greed b c = k.may b c := rfl
theorem ok_Device_taker (T : T w K mg) : FnR P w K mg base CX0 2 (He.ma K (He.ga K "Device") "taker") (sp_Device_taker K) := by
  have F_Device_is_on : FnR P w K mg base CX0 1 _ _ := ok_Device_is_on T
  have F_Work_held_off : FnR P w K mg base CX0 1 _ _ := ok_Work_held_off T
  have F_Work_may_take : FnR P w K mg base CX0 1 _ _ := ok_Work_may_take T
  obtain ⟨fd, F⟩ := T.f_Device_taker
  refine F.r sc_Device_taker (fun _ _ _ _ _ _ us hl => match us, hl with | [_, _, _], _ => rfl) (fun vs H Q E h => ?_) (fun cdv A outer s H vs Q E hr h => ?_)
  · obtain ⟨_, _, _, _, _, _, _, rfl, _⟩ := h
    rfl
  · obtain ⟨a, m, ks, took, wanted, g, ms, rfl, D, hm, hok, q⟩ := h
    refine ⟨_, (pss_cons (ps_for PassesOwn.never rfl (pi_enum rfl T.u_enumerate (pa_cons (pe_fld (pv 0) rfl) pa_nil)) (pg_tup rfl (pgs_cons (pg_name (i := 3) sc_Device_taker.nd rfl (Or.inl rfl)) (pgs_cons (pg_name (i := 4) sc_Device_taker.nd rfl (Or.inl rfl)) pgs_nil)))
      (pss_one (ps_if (PW.pt (pw_and (pt_val (pe_mthR (pv 0) T.cl_Device T.m_Device_is_on F_Device_is_on (hr.mono (by decide)) (pa_cons (pv 3) pa_nil))) (pw_and (pt_not (pt_val (pe_mthR (pv 4) T.cl_Work T.m_Work_held_off F_Work_held_off (hr.mono (by decide)) (pa_cons (pv 2) pa_nil)))) (pw_and1 (pt_val (pe_mthR (pv 4) T.cl_Work T.m_Work_may_take F_Work_may_take (hr.mono (by decide)) (pa_cons (pv 1) (pa_cons (pe_fld (pv 0) rfl) pa_nil))))))))
      (pss_one (ps_ret (pv 3)))
      pss_nil)))
      (pss_one (ps_ret pe_non))), ?_⟩
    refine ⟨_, rfl, _, _, _, _, _, rfl, D.ob, T.cl_Device, T.n_Device_works, dv_works _, ?_⟩
    refine ⟨a.l, a.was.map (fun p => V.ref p.1), rfl, SqL.of D.lst, for_it walk_enum (fun i σ H2 => ∃ v3 v4, σ = [some (.ref a.d), some (.bl wanted), some (.ref m), v3, v4] ∧ Same H H2 ∧ ∀ j k, j < i → ks[j]? = some k → takes ms wanted took k = false)
      ⟨none, none, rfl, Same.refl H, fun j k h _ => absurd h (by omega)⟩ (fun i σ H2 _ ⟨_, _, _, s2, _⟩ => SqL.of (s2 _ _ D.lst)) ?_ ?_⟩
    · rintro i x σ H2 H3 hi ⟨v3, v4, rfl, s2, hno⟩ ⟨t, y, z, rfl, ht, rfl, e1, e2⟩
      cases e1
      rw [List.length_map] at hi
      obtain ⟨k, hk⟩ : ∃ k, ks[i]? = some k := ⟨_, List.getElem?_eq_getElem (by rw [← D.len]; exact hi)⟩
      obtain ⟨x, e3, e4⟩ := D.get hk
      have e2 : (a.was.map fun p => V.ref p.1)[i]? = some z := e2
      rw [List.getElem?_map, e3] at e2
      cases e2
      have s3 : Same H (upd H2 t (.tup [.int (i : Int), .ref x.1])) := s2.trans (Same.new (Same.refl H2) ht)
      have D3 := D.same s3
      have hk3 := s3 _ _ e4
      have okk := hok k (List.mem_of_getElem? hk)
      refine ⟨t, _, rfl, .inl (.inl upd_same), rfl, _, _, rfl, _, _, rfl, rfl, ?_⟩
      refine ⟨_, rfl, _, _, _, rfl, D3.ob, dv_no_is_on _, ?_⟩
      refine ⟨_, rfl, ?_⟩ -- number
      refine ⟨a, ks, took, g, (i : Int), rfl, D3, by omega, ?_⟩
      refine ⟨_, rfl, ?_⟩ -- test
      have eon : isOn ks (i : Int) = k.on := by
        unfold isOn
        rw [show ((i : Int)).toNat = i from by omega, hk]
      rw [eon]
      have fin : takes ms wanted took k = false → ∃ v3 v4, (([some (.ref a.d), some (.bl wanted), some (.ref m), v3, v4] : L2.St).set 3 (some (.int (i : Int)))).set 4 (some (.ref x.1)) = [some (.ref a.d), some (.bl wanted), some (.ref m), v3, v4] ∧ Same H (upd H2 t (.tup [.int (i : Int), .ref x.1])) ∧ ∀ j k, j < i + 1 → ks[j]? = some k → takes ms wanted took k = false := fun hf =>
        ⟨_, _, rfl, s3, fun j k' hj hk' => by
          by_cases z : j = i
          · subst z
            rw [hk] at hk'
            cases hk'
            exact hf
          · exact hno j k' (by omega) hk'⟩
      cases hon : k.on with
      | false =>
        refine iteF (iteF ?_)
        exact fin (by unfold takes; rw [hon]; rfl)
      | true =>
        obtain ⟨i', e', x', y', c1, c2, c3, c4, c5, c6, c7, c8, c9, c10, c11⟩ := D3.onAt hk hon
        rw [e3] at c3
        cases c3
        refine iteT ?_
        refine ⟨_, rfl, ?_⟩ -- work
        refine ⟨_, _, _, rfl, hk3, wo_no_held_off _, ?_⟩
        refine ⟨_, rfl, ?_⟩ -- marks
        refine ⟨x.1, x.2, m, y'.g, y'.dg, y'.pl, k, _, _, ms, rfl, c9, c10, c11.lst, by rw [List.length_map, c11.len, List.length_map]; exact c7, s3 _ _ hm, okk.1, okk.2.1, ?_⟩
        refine ⟨_, rfl, ?_⟩ -- test
        cases hh : k.held ms with
        | true =>
          refine iteF (iteF ?_)
          exact fin (by unfold takes; rw [hon, hh]; rfl)
        | false =>
          refine iteT ?_
          refine ⟨_, rfl, ?_⟩ -- work
          refine ⟨_, _, _, rfl, hk3, wo_no_may_take _, ?_⟩
          refine ⟨_, rfl, ?_⟩ -- wanted
          refine ⟨_, rfl, _, _, _, _, _, rfl, D3.ob, T.cl_Device, T.n_Device_took, dv_took _, ?_⟩
          refine ⟨x.1, x.2, _, wanted, took, rfl, hk3, ?_⟩
          refine ⟨_, rfl, ?_⟩ -- test
          rw [may_eq]
          cases hy : k.may wanted took with
          | false =>
            refine iteF ?_
            exact fin (by unfold takes; rw [hon, hh, hy]; rfl)
          | true =>
            refine iteT ?_
            refine ⟨_, rfl, ?_⟩
            have ef : ks.findIdx? (takes ms wanted took) = some i := by
              have hi2 : i < ks.length := by rw [← D.len]; exact hi
              refine List.findIdx?_eq_some_iff_getElem.mpr ⟨hi2, ?_, fun j hj => ?_⟩
              · have ek : ks[i] = k := by rw [List.getElem?_eq_getElem hi2] at hk; exact Option.some.inj hk
                rw [ek]
                unfold takes
                rw [hon, hh, hy]
                rfl
              · have hj2 : j < ks.length := by omega
                have := hno j _ hj (List.getElem?_eq_getElem hj2)
                simp [this]
            rw [ef] at q
            exact q _ s3
    · rintro σ H2 ⟨v3, v4, rfl, s2, hno⟩
      rw [List.length_map] at hno
      have ef : ks.findIdx? (takes ms wanted took) = none := by
        refine List.findIdx?_eq_none_iff.mpr fun x hx => ?_
        obtain ⟨j, hj, e⟩ := List.mem_iff_getElem.mp hx
        exact hno j x (by rw [D.len]; exact hj) (by rw [List.getElem?_eq_getElem hj, e])
      rw [ef] at q
      exact q _ s2
def Told (H H' : Hp) (v : V) : Option (Int × Str × Int × Int) → Prop
  | none => v = .non
  | some (j, z, a, x) => ∃ p, v = .ref p ∧ H p = none ∧ H' p = some (.tup [.int j, .str z, .int a, .int x])
def sp_Device_move (K : PySem.W.Frag) : Sp := fun vs H Q _ => ∃ (a : DA) (m lw : Addr) (ks : List Wk) (took wanted : Bool) (g : GH) (ms : List Bool) (ws : List Int) (when : Int), vs = [.ref a.d, .int when, .bl wanted, .ref m, .ref lw] ∧ DevAt K H a ks took g ∧
  H m = some (.lst (ms.map V.bl)) ∧ H lw = some (.lst (ws.map V.int)) ∧ 0 < ws.length ∧ lw ∉ a.foot ∧ (∀ k ∈ ks, WkOk ms.length k) ∧ g.G.length < g.nb + 1000 ∧
  ∀ H' a' v, DLe a a' → DevAt K H' a' (devMove ks took wanted ms ws).1 (devMove ks took wanted ms ws).2.1 (devG ks took wanted ms ws when g) → H' lw = some (.lst ((devMove ks took wanted ms ws).2.2.1.map V.int)) → Stp [lw] a.foot H a'.foot H' → Told H H' v (devMove ks took wanted ms ws).2.2.2 → Q v H'
theorem GH.move_len {g : GH} {j : Nat} {k : Wk} {when : Int} {ws : List Int} : (g.move j k when ws).G.length = g.G.length ∧ (g.move j k when ws).nb = g.nb := by
  unfold GH.move
  split
  · split
    · split <;> simp
    · simp
  · simp
theorem ok_Device_move (T : T w K mg) : FnR P w K mg base CX0 4 (He.ma K (He.ga K "Device") "move") (sp_Device_move K) := by
  have F_Device_taker : FnR P w K mg base CX0 2 _ _ := ok_Device_taker T
  have F_Device_start : FnR P w K mg base CX0 3 _ _ := ok_Device_start T
  have F_Work_move : FnR P w K mg base CX0 2 _ _ := ok_Work_move T
  obtain ⟨fd, F⟩ := T.f_Device_move
  refine F.r sc_Device_move (fun _ _ _ _ _ _ us hl => match us, hl with | [_, _, _, _, _], _ => rfl) (fun vs H Q E h => ?_) (fun cdv A outer s H vs Q E hr h => ?_)
  · obtain ⟨_, _, _, _, _, _, _, _, _, _, rfl, _⟩ := h
    rfl
  · obtain ⟨a, m, lw, ks, took, wanted, g, ms, ws, when, rfl, D, hm, hlw, hw0, nl, hok, hgl, q⟩ := h
    refine ⟨_, (pss_cons (ps_set (i := 5) sc_Device_move.nd rfl (Or.inl rfl) (pe_mthR (pv 0) T.cl_Device T.m_Device_taker F_Device_taker (hr.mono (by decide)) (pa_cons (pv 2) (pa_cons (pv 3) pa_nil))))
      (pss_cons (ps_fld (pv 0) (pe_cmp (pc_notN (pv 5))) rfl)
      (pss_cons (ps_if (pt_cmp (pc_isN (pv 5)))
      (pss_one (ps_ret pe_non))
      pss_nil)
      (pss_cons (ps_set (i := 6) sc_Device_move.nd rfl (Or.inl rfl) (pe_ix ix_list (pe_fld (pv 0) rfl) (pv 5) (fun _ _ => rfl)))
      (pss_cons (ps_asg (pe_mthR (pv 6) T.cl_Work T.m_Work_move F_Work_move (hr.mono (by decide)) (pa_cons (pv 1) (pa_cons (pv 4) pa_nil))) (pg_tup rfl (pgs_cons (pg_name (i := 7) sc_Device_move.nd rfl (Or.inl rfl)) (pgs_cons (pg_name (i := 8) sc_Device_move.nd rfl (Or.inl rfl)) (pgs_cons (pg_name (i := 9) sc_Device_move.nd rfl (Or.inl rfl)) pgs_nil)))))
      (pss_cons (ps_if (PW.pt (pw_and (pt_cmp (pc_isN (pe_fld (pv 6) rfl))) (pw_and1 (pt_cmp (pc_notN (pe_fld (pv 6) rfl))))))
      (pss_one (ps_expr (pe_mthR (pv 0) T.cl_Device T.m_Device_start F_Device_start (hr.mono (by decide)) (pa_cons (pe_fld (pv 6) rfl) pa_nil))))
      pss_nil)
      (pss_one (ps_ret (pe_tup (pa_cons (pv 5) (pa_cons (pv 7) (pa_cons (pv 8) (pa_cons (pv 9) pa_nil))))))))))))), ?_⟩
    refine ⟨_, rfl, ?_⟩ -- self
    refine ⟨_, _, _, rfl, D.ob, dv_no_taker _, ?_⟩
    refine ⟨_, rfl, ?_⟩ -- wanted
    refine ⟨_, rfl, ?_⟩ -- marks
    refine ⟨a, m, ks, took, wanted, g, ms, rfl, D, hm, hok, fun H1 s1 => ?_⟩ -- self.taker(wanted, marks)
    have D1 := D.same s1
    have lwd : lw ≠ a.d := fun z => nl (by rw [z]; exact DA.inD)
    refine ⟨_, rfl, ?_⟩ -- number
    unfold devMove devG at q
    have inF : ∀ {b : Addr}, b ∈ a.foot → b ∈ lw :: a.foot := fun h => List.mem_cons_of_mem _ h
    cases ej : ks.findIdx? (takes ms wanted took) with
    | none =>
      rw [ej] at q
      refine stf D1.ob T.cl_Device T.n_Device_took (dv_len _) (dv_put_took _ _) ?_ -- self.took = number is not None
      refine ⟨_, rfl, ?_⟩ -- number
      refine ⟨_, rfl, ?_⟩ -- test
      refine iteT ?_
      exact q _ a _ (DLe.refl _) D1.setTook (by rw [upd_ne lwd]; exact s1 _ _ hlw) (Stp.of ((Kept.same s1).put (inF DA.inD)) (fun b h => Same.free s1 (upd_none h))) rfl
    | some j =>
      obtain ⟨k, hk⟩ : ∃ k, ks[j]? = some k := by
        obtain ⟨hj, _⟩ := List.findIdx?_eq_some_iff_getElem.mp ej
        exact ⟨_, List.getElem?_eq_getElem hj⟩
      have hon : k.on = true := by
        obtain ⟨hj, ht, _⟩ := List.findIdx?_eq_some_iff_getElem.mp ej
        rw [List.getElem?_eq_getElem hj] at hk
        cases hk
        unfold takes at ht
        rw [Bool.and_eq_true] at ht
        exact ht.1
      rw [ej] at q
      simp only [hk] at q
      refine stf D1.ob T.cl_Device T.n_Device_took (dv_len _) (dv_put_took _ _) ?_ -- self.took = number is not None
      have D2 : DevAt K (upd H1 a.d (.ins (cDevice K) a.dd (dvF ⟨a.l, true, a.lb⟩))) a ks true g := D1.setTook
      have k2 : Kept (lw :: a.foot) H (upd H1 a.d (.ins (cDevice K) a.dd (dvF ⟨a.l, true, a.lb⟩))) := (Kept.same s1).put (inF DA.inD)
      have f2 : ∀ b, upd H1 a.d (.ins (cDevice K) a.dd (dvF ⟨a.l, true, a.lb⟩)) b = none → H b = none := fun b h => Same.free s1 (upd_none h)
      have hlw2 : upd H1 a.d (.ins (cDevice K) a.dd (dvF ⟨a.l, true, a.lb⟩)) lw = some (.lst (ws.map V.int)) := by rw [upd_ne lwd]; exact s1 _ _ hlw
      show (tSeq _ _) _ _ (upd H1 a.d (.ins (cDevice K) a.dd (dvF ⟨a.l, true, a.lb⟩)))
      generalize upd H1 a.d (.ins (cDevice K) a.dd (dvF ⟨a.l, true, a.lb⟩)) = H2 at D2 k2 hlw2 f2
      obtain ⟨i, e, x, y, c1, c2, c3, c4, c5, c6, c7, c8, c9, c10, c11⟩ := D2.onAt hk hon
      refine ⟨_, rfl, ?_⟩ -- number
      refine ⟨_, rfl, ?_⟩ -- test
      refine iteF ?_
      refine ⟨_, rfl, _, _, _, _, _, rfl, D2.ob, T.cl_Device, T.n_Device_works, dv_works _, ?_⟩
      refine ⟨_, rfl, ?_⟩ -- number
      refine ⟨_, _, _, _, rfl, rfl, SqL.of D2.lst, at_ref (n := (j : Int)) (by omega) (by simpa using c3), ?_⟩ -- self.works[number]
      refine ⟨_, rfl, ?_⟩ -- work
      refine ⟨_, _, _, rfl, c9, wo_no_move _, ?_⟩
      refine ⟨_, rfl, _, rfl, ?_⟩ -- when, words
      have lpl : lw ≠ y.pl := fun z => nl (by rw [z]; exact DA.inP c4)
      have mb := D2.co.mb k (List.mem_of_getElem? hk)
      have wkeep : ∀ {b : Addr}, b ∈ [x.1, y.g, y.pl, lw] → b ∈ lw :: a.foot := fun {b} hb => by
        simp only [List.mem_cons] at hb
        rcases hb with rfl | rfl | rfl | rfl | hb
        · exact inF (DA.inW c3)
        · exact inF (DA.inG c4)
        · exact inF (DA.inP c4)
        · exact List.mem_cons_self
        · cases hb
      /- what follows the work's move -/
      have rest : ∀ (H3 : Hp) (p : Addr) (a3 : DA), DLe a a3 → a3.was = a.was → a3.foot = a.foot → DevAt K H3 a3 (ks.set j (k.move ws).1) true (g.move j k when ws) → H p = none → H3 p = some (.tup [.str (k.move ws).2.2.1, .int (k.move ws).2.2.2.1, .int (k.move ws).2.2.2.2]) → H3 lw = some (.lst ((k.move ws).2.1.map V.int)) → Kept (lw :: a.foot) H H3 → (∀ b, H3 b = none → H b = none) →
          H3 x.1 = some (.ins (cWork K) x.2 (woF (k.wo (if (k.move ws).1.on = true then some y.g else none)))) →
          gTup K 3 (gCons (gName 7) (gCons (gName 8) (gCons (gName 9) gNil))) (.ref p) [some (.ref a.d), some (.int when), some (.bl wanted), some (.ref m), some (.ref lw), some (.int (j : Int)), some (.ref x.1), none, none, none] H3 (fun σ2 H2 => (tSeq (tIfS (tAnd (tTest (tIsN (tFld K (tVar 6) "going"))) (tTest (tNotN (tFld K (tVar 6) "follow"))))
            (tDrop (tMethR (He.ga K "Device") "start" (sp_Device_start K) E0 (tVar 0) (tCons (tFld K (tVar 6) "follow") tNil))) tNext) (tRet (tTup (tCons (tVar 5) (tCons (tVar 7) (tCons (tVar 8) (tCons (tVar 9) tNil))))))) { nx := fun _ H' => Q .non H', rt := Q } σ2 H2) := by
        intro H3 p a3 ad3 aw3 af3 D3 np hp3 hl3 k3 f3 hx3
        refine ⟨p, _, rfl, .inl (.inl hp3), rfl, _, _, rfl, _, _, rfl, _, _, rfl, rfl, ?_⟩ -- deed, address, word = work.move(words)
        have s3 : Stp [lw] a.foot H a3.foot H3 := by rw [af3]; exact Stp.of k3 f3
        have fin : ∀ (H4 : Hp) (a4 : DA) (ks4 : List Wk) (g4 : GH), DLe a a4 → Stp [lw] a.foot H a4.foot H4 → DevAt K H4 a4 ks4 true g4 → H4 lw = some (.lst ((k.move ws).2.1.map V.int)) →
            (∀ H' a' v, DLe a a' → DevAt K H' a' ks4 true g4 → H' lw = some (.lst ((k.move ws).2.1.map V.int)) → Stp [lw] a.foot H a'.foot H' → Told H H' v (some ((j : Int), (k.move ws).2.2)) → Q v H') →
            tRet (tTup (tCons (tVar 5) (tCons (tVar 7) (tCons (tVar 8) (tCons (tVar 9) tNil))))) { nx := fun _ H' => Q .non H', rt := Q } [some (.ref a.d), some (.int when), some (.bl wanted), some (.ref m), some (.ref lw), some (.int (j : Int)), some (.ref x.1), some (.str (k.move ws).2.2.1), some (.int (k.move ws).2.2.2.1), some (.int (k.move ws).2.2.2.2)] H4 := by
          intro H4 a4 ks4 g4 ad4 s4 D4 hl4 q4
          refine ⟨_, rfl, _, rfl, _, rfl, _, rfl, by show 4 ≤ sizeLine; decide, fun p2 hp2 => ?_⟩
          have np2 : H p2 = none := s4.fr _ hp2
          have s5 : Same H4 (upd H4 p2 (.tup [.int (j : Int), .str (k.move ws).2.2.1, .int (k.move ws).2.2.2.1, .int (k.move ws).2.2.2.2])) := Same.new (Same.refl _) hp2
          exact q4 _ a4 _ ad4 (D4.same s5) (s5 _ _ hl4) (s4.trans (Stp.same s5)) ⟨p2, rfl, np2, upd_same⟩
        cases hon' : (k.move ws).1.on with
        | true =>
          rw [hon'] at q hx3
          rw [if_pos rfl] at hx3
          refine ⟨_, rfl, _, _, _, _, _, rfl, hx3, T.cl_Work, T.n_Work_going, wo_going _, ?_⟩
          refine ⟨_, rfl, ?_⟩ -- test
          refine iteF (iteF ?_)
          exact fin H3 a3 _ _ ad3 s3 D3 hl3 q
        | false =>
          rw [hon'] at q hx3
          rw [if_neg (by simp)] at hx3
          refine ⟨_, rfl, _, _, _, _, _, rfl, hx3, T.cl_Work, T.n_Work_going, wo_going _, ?_⟩
          refine ⟨_, rfl, ?_⟩ -- test
          refine iteT ?_
          refine ⟨_, rfl, _, _, _, _, _, rfl, hx3, T.cl_Work, T.n_Work_follow, wo_follow _, ?_⟩
          refine ⟨_, rfl, ?_⟩ -- test
          have hkf : (k.move ws).1.follow = k.follow := by
            unfold Wk.move
            cases k.hand <;> rfl
          rw [hkf] at q
          show if _ = true then _ else _
          cases hfo : k.follow with
          | none =>
            rw [hfo] at q
            have e1 : (k.wo none).follow = none := hfo
            rw [e1]
            refine iteF ?_
            exact fin H3 a3 _ _ ad3 s3 D3 hl3 q
          | some f =>
            rw [hfo] at q
            have e1 : (k.wo none).follow = some f := hfo
            rw [e1]
            have hf0 : 0 ≤ f := (hok k (List.mem_of_getElem? hk)).2.2 f hfo
            refine iteT ?_
            refine ⟨_, rfl, ?_⟩ -- self
            refine ⟨_, _, _, rfl, by rw [← ad3.d]; exact D3.ob, dv_no_start _, ?_⟩
            refine ⟨_, rfl, _, _, _, _, _, rfl, hx3, T.cl_Work, T.n_Work_follow, wo_follow _, ?_⟩
            have ml := GH.move_len (g := g) (j := j) (k := k) (when := when) (ws := ws)
            refine ⟨a3, _, true, _, f, by rw [ad3.d, e1]; rfl, D3, hf0, by rw [ml.1, ml.2]; exact hgl, fun H4 a4 ad4 D4 s4 => ?_⟩ -- self.start(work.follow)
            have lw3 : lw ∉ a3.foot := by rw [af3]; exact nl
            exact fin H4 a4 _ _ (ad3.trans ad4) (s3.trans (s4.more [lw])) D4 (s4.kp _ _ hl3 lw3) q
      refine ⟨x.1, x.2, y.g, y.dg, y.pl, lw, k, _, when, _, ws, rfl, c9, c10, c11.lst, by rw [List.length_map, c11.len, List.length_map]; exact c7, hlw2, hw0, Ne.symm (D2.wG c4 c3), lpl, c8, by omega, fun hn H3 p f => ?_, fun v hn H3 p t f => ?_⟩ -- work.move(words)
      · have em : k.move ws = ({ k with hand := some (ws.getD ((k.begin + k.laid) % ws.length).toNat 0) }, ws, (("get" : Str), (k.begin + k.laid) % ws.length, ws.getD ((k.begin + k.laid) % ws.length).toNat 0)) := by
          unfold Wk.move
          rw [hn]
        have D3 := D2.fetched (when := when) hk hn c1 c2 c5 c4 f
        obtain ⟨f1, f2', f3, f4⟩ := f
        have yg : x.1 ≠ y.g := Ne.symm (D2.wG c4 c3)
        have lg : lw ≠ y.g := fun z => nl (by rw [z]; exact DA.inG c4)
        refine rest H3 p a (DLe.refl _) rfl rfl D3 (f2 _ f1) (by rw [em]; exact f2') (by rw [em]; exact f4 _ _ hlw2 (by simpa using lg)) (k2.trans (f4.mono (fun z hz => by
          have e : z = y.g := by simpa using hz
          rw [e]
          exact inF (DA.inG c4)))) (fun b hb => f2 _ (f4.free hb (fun z => by
          have e : b = y.g := by simpa using z
          rw [e, f3] at hb
          cases hb))) ?_
        have eo : (k.move ws).1.on = true := by rw [em]; exact hon
        rw [eo, if_pos rfl]
        exact f4 _ _ c9 (by simpa using yg)
      · have em : k.move ws = ({ k with hand := none, laid := k.laid + 1, on := decide (k.laid + 1 < k.many) }, ws.set ((k.goal + k.laid) % ws.length).toNat v, (("put" : Str), (k.goal + k.laid) % ws.length, v)) := by
          unfold Wk.move
          rw [hn]
        have D3 := D2.laid (when := when) hk hn c1 c2 c5 c3 c4 hlw2 nl f
        obtain ⟨f1, f2', f3, f4, f5, f6, f7, f8, f9⟩ := f
        refine rest H3 p { a with gas := a.gas.set i { y with ps := y.ps ++ [t] } } ⟨rfl, [], by rw [List.append_nil]; exact gas_g c4⟩ rfl (foot_set c4) D3 (f2 _ f1) (by rw [em]; exact f3) (by rw [em]; exact f8) (k2.trans (f9.mono (fun z hz => wkeep hz))) (fun b hb => f2 _ (f9.free hb (fun z => by
          simp only [List.mem_cons] at z
          rcases z with rfl | rfl | rfl | rfl | z
          · rw [f7] at hb; cases hb
          · rw [f6] at hb; cases hb
          · rw [f5] at hb; cases hb
          · rw [f8] at hb; cases hb
          · cases z))) ?_
        have eo : (k.move ws).1.on = decide (k.laid + 1 < k.many) := by rw [em]
        rw [eo, f7]
        by_cases c : k.laid + 1 < k.many
        · rw [if_pos c, if_pos (decide_eq_true c)]
        · rw [if_neg c, if_neg (by simpa using c)]
end
end SB

set_option Elab.async false
set_option linter.all false
set_option maxRecDepth 100000
set_option maxHeartbeats 2000000
namespace SB
open PySem L2
section
variable {P : Program} {w : World} {K : PySem.W.Frag} {mg : Str → Option Value} {base : Heap}
variable {H H' : Hp} {a : DA} {ks : List Wk} {took : Bool} {g : GH}
def Wk.vs (k : Wk) : List V := [.int k.begin, .int k.goal, .int k.many, .int k.block, .str k.greed, oV k.mark, oV k.follow]
def Wk.fresh (k : Wk) : Wk := { k with on := false, laid := 0, hand := none }
structure WorksAt (K : PySem.W.Frag) (H : Hp) (wl : Addr) (ts : List Addr) (ks : List Wk) : Prop where
  lst : SqL K H wl (ts.map V.ref)
  len : ts.length = ks.length
  at_ : ∀ (j : Nat) (t : Addr) (k : Wk), ts[j]? = some t → ks[j]? = some k → SqT K H t k.vs
theorem WorksAt.same {wl : Addr} {ts : List Addr} (W : WorksAt K H wl ts ks) (s : Same H H') : WorksAt K H' wl ts ks := ⟨s.seq W.lst, W.len, fun j t k h1 h2 => Same.tup s (W.at_ j t k h1 h2)⟩
def GH.none (n : Nat) : GH := ⟨[], List.replicate n Option.none, 0⟩
def sp_Device_init (K : PySem.W.Frag) : Sp := fun vs H Q _ => ∃ (d dd wl : Addr) (ts : List Addr) (ks : List Wk), vs = [.ref d, .ref wl] ∧ H d = some (.ins (cDevice K) dd []) ∧ WorksAt K H wl ts ks ∧ ts.length ≤ 6 ∧ (∀ k ∈ ks, 0 < k.many ∧ k.many ≤ 16) ∧
  ∀ H' a, a.d = d → DevAt K H' a (ks.map Wk.fresh) false (GH.none ks.length) → (∀ b ∈ a.foot, b ≠ d → H b = none) → Kept [d] H H' → (∀ b, H' b = none → H b = none) → Q .non H'
theorem ok_Device_init (T : T w K mg) : FnR P w K mg base CX0 3 (He.ma K (He.ga K "Device") "__init__") (sp_Device_init K) := by
  have F_Work_init : FnR P w K mg base CX0 1 _ _ := ok_Work_init T
  obtain ⟨fd, F⟩ := T.f_Device_init
  refine F.r sc_Device_init (fun _ _ _ _ _ _ us hl => match us, hl with | [_, _], _ => rfl) (fun vs H Q E h => ?_) (fun cdv A outer s H vs Q E hr h => ?_)
  · obtain ⟨_, _, _, _, _, rfl, _⟩ := h
    rfl
  · obtain ⟨d, dd, wl, ts, ks, rfl, hself, W, h6, mb, q⟩ := h
    refine ⟨_, (pss_cons (ps_fld (pv 0) (pe_lc (own := [("work", 2)]) (g := gName 2) (tt := tYes) (te := tMakeS K (He.ga K "Work") (sp_Work_init K) (tVar 2)) rfl sc_Device_init.nd (pi_list (pv 1)) (blkOk_by (N := ["self", "works", "work"]) (sc := defScope s_Device_init) (by decide +kernel)) (fun _ _ _ _ _ => pg_name (i := 2) sc_Device_init.nd rfl (Or.inl rfl)) (fun _ _ _ _ _ => pts_nil)
        (fun _ _ _ _ _ => pe_mkS T.mk_Work F_Work_init (hr.mono (by decide)) rfl T.g_Work (pv 2))) rfl)
      (pss_cons (ps_fld (pv 0) pe_bl rfl)
      (pss_one (ps_fld (pv 0) (pe_lst pa_nil) rfl)))), ?_⟩
    refine ⟨_, rfl, wl, rfl, ⟨_, W.lst⟩, fun D hD => lc_list (K := K) (a := wl) (xs := ts.map V.ref) (fun i H2 => ∃ was : List (Addr × Addr), H2 D = some (.lst (was.map fun p => V.ref p.1)) ∧ was.length = i ∧ Same H H2 ∧ (was.map (·.1)).Nodup ∧ (∀ a ∈ was.map (·.1), H a = none) ∧
        ∀ (j : Nat) (a dx : Addr) (k : Wk), was[j]? = some (a, dx) → ks[j]? = some k → H2 a = some (.ins (cWork K) dx (woF (k.wo none))))
      ⟨[], upd_same, rfl, Same.new (Same.refl H) hD, by simp, by simp, fun j a dx k h => by simp at h⟩ (fun i H2 _ ⟨_, _, _, s2, _⟩ => s2.seq W.lst) ?_ ?_⟩
    · rintro i x H2 hx ⟨was, h1, h2, s2, nd, hf, hw⟩
      rw [List.getElem?_map] at hx
      cases ht : ts[i]? with
      | none => rw [ht] at hx; cases hx
      | some t =>
        rw [ht] at hx
        cases hx
        have hi : i < ts.length := (List.getElem?_eq_some_iff.mp ht).1
        obtain ⟨k, hk⟩ : ∃ k, ks[i]? = some k := ⟨_, List.getElem?_eq_getElem (by rw [← W.len]; exact hi)⟩
        refine ⟨rfl, yes ?_⟩
        refine ⟨_, rfl, t, k.vs, rfl, Same.tup s2 (W.at_ i t k ht hk), fun x dx nx ndx ne => ?_⟩
        refine ⟨x, dx, k.begin, k.goal, k.many, k.block, k.greed, k.mark, k.follow, rfl, upd_same, fun H3 e3 k3 => ⟨rfl, ?_⟩⟩
        have hDx : D ≠ x := ne_of_none h1 nx
        have hDdx : D ≠ dx := ne_of_none h1 ndx
        have s3 : Same H2 H3 := fun b o e => k3 b o (by rw [upd_ne (ne_of_none e nx), upd_ne (ne_of_none e ndx)]; exact e) (by simpa using ne_of_none e nx)
        have h13 := s3 _ _ h1
        refine ⟨_, h13, ?_, was ++ [(x, dx)], ?_, by simp [h2], ?_, ?_, ?_, ?_⟩
        · rw [List.length_map, h2]
          exact Nat.lt_of_lt_of_le hi (Nat.le_trans h6 (by decide))
        · rw [upd_same, List.map_append]
          rfl
        · exact Same.new (s2.trans s3) hD
        · rw [List.map_append]
          refine List.nodup_append.mpr ⟨nd, by simp, fun a ha b hb => ?_⟩
          have eb : b = x := by simpa using hb
          subst eb
          intro z
          subst z
          obtain ⟨p, hp, e⟩ := List.mem_map.mp ha
          obtain ⟨j, hj, ej⟩ := List.mem_iff_getElem.mp hp
          obtain ⟨kj, hkj⟩ : ∃ kj, ks[j]? = some kj := ⟨_, List.getElem?_eq_getElem (by rw [← W.len]; omega)⟩
          have := hw j p.1 p.2 kj (by rw [List.getElem?_eq_getElem hj, ej]) hkj
          rw [e, nx] at this
          cases this
        · intro a ha
          rw [List.map_append] at ha
          rcases List.mem_append.mp ha with ha | ha
          · exact hf a ha
          · have ea : a = x := by simpa using ha
            rw [ea]
            exact Same.free s2 nx
        · intro j a dy kj e1 e2
          by_cases hj : j < was.length
          · rw [List.getElem?_append_left hj] at e1
            have e4 := hw j a dy kj e1 e2
            have haD : a ≠ D := by
              intro z
              rw [z, h1] at e4
              cases e4
            rw [upd_ne haD]
            exact s3 _ _ e4
          · have ej : j = was.length := by
              have := (List.getElem?_eq_some_iff.mp e1).1
              rw [List.length_append] at this
              simp at this
              omega
            subst ej
            rw [List.getElem?_append_right (Nat.le_refl _), Nat.sub_self] at e1
            have e5 : (x, dx) = (a, dy) := by simpa using e1
            cases e5
            rw [h2, hk] at e2
            cases e2
            rw [upd_ne (Ne.symm hDx)]
            exact e3
    · rintro H2 ⟨was, h1, h2, s2, nd, hf, hw⟩
      rw [List.length_map] at h2
      have e1 := s2 _ _ hself
      have hdD : d ≠ D := ne_of_none hself hD
      refine stf e1 T.cl_Device T.n_Device_works (by decide) rfl ?_
      refine stf upd_same T.cl_Device T.n_Device_took (lt1000 (by kernel_rfl)) rfl ?_
      rw [upd_upd]
      refine ⟨by show 0 ≤ sizeLine; decide, fun b hb => ?_⟩
      have bd : b ≠ d := fun z => by rw [z, upd_same] at hb; cases hb
      rw [upd_ne bd] at hb
      have nb : H b = none := Same.free s2 hb
      refine stf (by rw [upd_ne (Ne.symm bd)]; exact upd_same) T.cl_Device T.n_Device_begun (lt1000 (by kernel_rfl)) (dv_made D false b) ?_
      have Db : D ≠ b := ne_of_none h1 hb
      have had : ∀ {j : Nat} {x : Addr × Addr}, was[j]? = some x → x.1 ≠ d := fun {j x} e2 z => by
        have := hf x.1 (List.mem_map.mpr ⟨x, List.mem_of_getElem? e2, rfl⟩)
        rw [z, hself] at this
        cases this
      refine q _ ⟨d, dd, D, b, was, []⟩ rfl ⟨upd_same, ?_, ?_, fun j x k e2 e3 => ?_, fun i x e h => ?_, ?_, rfl, ⟨by simp [GH.none], fun j k i e2 e3 => ?_, fun j k e2 e3 => ?_, fun k hk => ?_, Nat.le_refl _⟩, nd, by simp, ?_⟩ (fun z hz hzd => ?_) (((Kept.same s2).put (by simp)).new nb |>.put (by simp)) (fun z hz => Same.free s2 (upd_none (upd_none (upd_none hz))))
      · show upd _ d _ D = _
        rw [upd_ne (Ne.symm hdD), upd_ne Db, upd_ne (Ne.symm hdD)]
        exact h1
      · show upd _ d _ b = some (.lst [])
        rw [upd_ne bd]
        exact upd_same
      · rw [List.getElem?_map] at e3
        cases ek : ks[j]? with
        | none => rw [ek] at e3; cases e3
        | some k0 =>
          rw [ek] at e3
          cases e3
          have e4 := hw j x.1 x.2 k0 e2 ek
          have hxd := had e2
          have eg : ∀ o : Option (Option Nat), goA ([] : List GA) o = none := fun o => by cases o with | none => rfl | some o => cases o <;> rfl
          show upd _ d _ x.1 = some (.ins (cWork K) x.2 (woF (k0.fresh.wo (goA [] _))))
          rw [eg, upd_ne hxd, upd_ne (ne_of_none e4 hb), upd_ne hxd]
          exact e4
      · simp at h
      · rw [List.length_map]
        show was.length = _
        rw [h2, W.len]
      · have e3' : (List.replicate ks.length (Option.none : Option Nat))[j]? = some (some i) := e3
        rw [List.getElem?_replicate] at e3'
        split at e3' <;> cases e3'
      · rw [List.getElem?_map] at e2
        cases ek : ks[j]? with
        | none => rw [ek] at e2; cases e2
        | some k0 =>
          rw [ek] at e2
          cases e2
          exact ⟨rfl, rfl⟩
      · obtain ⟨k0, hk0, rfl⟩ := List.mem_map.mp hk
        exact mb k0 hk0
      · show [D, b].Nodup
        simp [Db]
      · have hz' : z ∈ d :: D :: b :: (was.map (·.1) ++ ([] ++ [])) := hz
        simp only [List.mem_cons, List.append_nil] at hz'
        rcases hz' with h | h | h | h
        · exact absurd h hzd
        · rw [h]; exact hD
        · rw [h]; exact nb
        · exact hf z h
def onFrom : Nat → List Wk → List (Nat × Wk)
  | _, [] => []
  | i, k :: r => if k.on = true then (i, k) :: onFrom (i + 1) r else onFrom (i + 1) r
theorem onFrom_app : ∀ (i : Nat) (xs ys : List Wk), onFrom i (xs ++ ys) = onFrom i xs ++ onFrom (i + xs.length) ys
  | i, [], ys => by simp [onFrom]
  | i, k :: r, ys => by
    show (if k.on = true then _ :: onFrom (i + 1) (r ++ ys) else onFrom (i + 1) (r ++ ys)) = (if k.on = true then _ :: onFrom (i + 1) r else onFrom (i + 1) r) ++ _
    rw [onFrom_app (i + 1) r ys]
    have e : i + 1 + r.length = i + (k :: r).length := by simp; omega
    rw [e]
    split <;> rfl
theorem onFrom_len : ∀ (i : Nat) (ks : List Wk), (onFrom i ks).length ≤ ks.length
  | _, [] => by simp [onFrom]
  | i, k :: r => by
    have := onFrom_len (i + 1) r
    show (if k.on = true then _ :: onFrom (i + 1) r else onFrom (i + 1) r).length ≤ _
    split
    · simp only [List.length_cons]; omega
    · simp only [List.length_cons]; omega
theorem onFrom_mem : ∀ (i : Nat) (ks : List Wk) (j : Nat) (k : Wk), (j, k) ∈ onFrom i ks → i ≤ j ∧ ks[j - i]? = some k ∧ k.on = true
  | i, [], j, k, h => by simp [onFrom] at h
  | i, k0 :: r, j, k, h => by
    have h' : (j, k) ∈ (if k0.on = true then (i, k0) :: onFrom (i + 1) r else onFrom (i + 1) r) := h
    have rc2 : (j, k) ∈ onFrom (i + 1) r → i ≤ j ∧ (k0 :: r)[j - i]? = some k ∧ k.on = true := fun h2 => by
      obtain ⟨a1, a2, a3⟩ := onFrom_mem (i + 1) r j k h2
      have e : j - i = (j - (i + 1)) + 1 := by omega
      exact ⟨by omega, by rw [e]; exact a2, a3⟩
    split at h'
    · rename_i ho
      rcases List.mem_cons.mp h' with z | z
      · cases z
        exact ⟨Nat.le_refl _, by simp, ho⟩
      · exact rc2 z
    · exact rc2 h'
theorem onFrom_take {ks : List Wk} {i : Nat} {k : Wk} (hk : ks[i]? = some k) : onFrom 0 (ks.take (i + 1)) = onFrom 0 (ks.take i) ++ (if k.on = true then [(i, k)] else []) := by
  have et : ks.take (i + 1) = ks.take i ++ [k] := by
    rw [List.take_add_one, hk]
    rfl
  have hi : i < ks.length := (List.getElem?_eq_some_iff.mp hk).1
  rw [et, onFrom_app]
  have el : 0 + (ks.take i).length = i := by rw [List.length_take]; omega
  rw [el]
  rfl
def sp_Device_numbers_on (K : PySem.W.Frag) : Sp := fun vs H Q _ => ∃ (a : DA) (ks : List Wk) (took : Bool) (g : GH), vs = [.ref a.d] ∧ DevAt K H a ks took g ∧ ks.length ≤ 6 ∧
  ∀ H' D, H D = none → H' D = some (.lst ((onFrom 0 ks).map fun p => V.int (p.1 : Int))) → Same H H' → Q (.ref D) H'
theorem ok_Device_numbers_on (T : T w K mg) : FnR P w K mg base CX0 2 (He.ma K (He.ga K "Device") "numbers_on") (sp_Device_numbers_on K) := by
  have F_Device_is_on : FnR P w K mg base CX0 1 _ _ := ok_Device_is_on T
  obtain ⟨fd, F⟩ := T.f_Device_numbers_on
  refine F.r sc_Device_numbers_on (fun _ _ _ _ _ _ us hl => match us, hl with | [_], _ => rfl) (fun vs H Q E h => ?_) (fun cdv A outer s H vs Q E hr h => ?_)
  · obtain ⟨_, _, _, _, rfl, _⟩ := h
    rfl
  · obtain ⟨a, ks, took, g, rfl, D, h6, q⟩ := h
    refine ⟨_, (pss_one (ps_ret (pe_lc (own := [("number", 1)]) (g := gName 1) (tt := tB (tMethR (He.ga K "Device") "is_on" (sp_Device_is_on K) E0 (tVar 0) (tCons (tVar 1) tNil))) (te := tVar 1) rfl sc_Device_numbers_on.nd
        (pi_range1 rfl T.u_range (pa_cons (pe_callB call_len_seq rfl T.u_len PySem.boot_len (pa_cons (pe_fld (pv 0) rfl) pa_nil)) pa_nil))
        (blkOk_by (N := ["self", "number"]) (sc := defScope s_Device_numbers_on) (by decide +kernel))
        (fun _ _ _ _ _ => pg_name (i := 1) sc_Device_numbers_on.nd rfl (Or.inl rfl))
        (fun _ _ _ _ _ => pts_one (pt_val (pe_mthR (pv 0) T.cl_Device T.m_Device_is_on F_Device_is_on (hr.mono (by decide)) (pa_cons (pv 1) pa_nil))))
        (fun _ _ _ _ _ => pv 1)))), ?_⟩
    refine ⟨_, rfl, _, _, _, _, _, rfl, D.ob, T.cl_Device, T.n_Device_works, dv_works _, ?_⟩
    refine ⟨_, _, rfl, .inl (SqL.of D.lst), ?_⟩ -- len
    rw [List.length_map, D.len]
    refine ⟨(ks.length : Int), rfl, by omega, by omega, fun R hR => ?_⟩
    refine lc_it walk_range (fun i H2 => H2 R = some (.lst ((onFrom 0 (ks.take i)).map fun p => V.int (p.1 : Int))) ∧ Same H H2)
      ⟨upd_same, Same.new (Same.refl H) hR⟩ (fun i H2 _ _ => trivial) ?_ ?_
    · rintro i x H2 H3 hi ⟨hR2, s2⟩ ⟨rfl, rfl⟩
      have hi2 : i < ks.length := by omega
      obtain ⟨k, hk⟩ : ∃ k, ks[i]? = some k := ⟨_, List.getElem?_eq_getElem hi2⟩
      have D2 := D.same s2
      have et := onFrom_take hk
      refine ⟨rfl, ?_⟩
      refine ⟨_, rfl, _, _, _, rfl, D2.ob, dv_no_is_on _, ?_⟩
      refine ⟨_, rfl, ?_⟩
      refine ⟨a, ks, took, g, (i : Int), by simp, D2, by omega, ?_⟩
      refine ⟨_, rfl, ?_⟩
      have eon : isOn ks (i : Int) = k.on := by
        unfold isOn
        rw [show ((i : Int)).toNat = i from by omega, hk]
      rw [eon]
      cases hon : k.on with
      | false =>
        rw [hon] at et
        refine iteF ⟨?_, s2⟩
        rw [et]
        simpa using hR2
      | true =>
        rw [hon] at et
        refine iteT ?_
        refine ⟨_, rfl, _, hR2, ?_, ?_, ?_⟩
        · rw [List.length_map]
          have := onFrom_len 0 (ks.take i)
          rw [List.length_take] at this
          exact Nat.lt_of_le_of_lt (Nat.le_trans this (by omega : _ ≤ 6)) (by decide)
        · rw [upd_same, et, List.map_append]
          simp
        · exact Same.new s2 hR
    · rintro H2 ⟨hR2, s2⟩
      have e : ((ks.length : Int)).toNat = ks.length := by omega
      rw [e, List.take_length] at hR2
      exact q _ R hR hR2 s2
def goFrom : Nat → List Wk → List (Int × Int × Bool)
  | _, [] => []
  | i, k :: r => if k.on = true then ((i : Int), k.laid, k.hand.isSome) :: goFrom (i + 1) r else goFrom (i + 1) r
theorem goFrom_app : ∀ (i : Nat) (xs ys : List Wk), goFrom i (xs ++ ys) = goFrom i xs ++ goFrom (i + xs.length) ys
  | i, [], ys => by simp [goFrom]
  | i, k :: r, ys => by
    show (if k.on = true then _ :: goFrom (i + 1) (r ++ ys) else goFrom (i + 1) (r ++ ys)) = (if k.on = true then _ :: goFrom (i + 1) r else goFrom (i + 1) r) ++ _
    rw [goFrom_app (i + 1) r ys]
    have e : i + 1 + r.length = i + (k :: r).length := by simp; omega
    rw [e]
    split <;> rfl
def goV (g : Int × Int × Bool) : List V := [.int g.1, .int g.2.1, .bl g.2.2]
theorem goFrom_on : ∀ (i : Nat) (ks : List Wk), goFrom i ks = (onFrom i ks).map fun p => ((p.1 : Int), p.2.laid, p.2.hand.isSome)
  | _, [] => rfl
  | i, k :: r => by
    show (if k.on = true then _ :: goFrom (i + 1) r else goFrom (i + 1) r) = (if k.on = true then (i, k) :: onFrom (i + 1) r else onFrom (i + 1) r).map _
    rw [goFrom_on (i + 1) r]
    split <;> rfl
theorem goFrom_len : ∀ (i : Nat) (ks : List Wk), (goFrom i ks).length ≤ ks.length
  | _, [] => by simp [goFrom]
  | i, k :: r => by
    have := goFrom_len (i + 1) r
    show (if k.on = true then _ :: goFrom (i + 1) r else goFrom (i + 1) r).length ≤ _
    split
    · simp only [List.length_cons]; omega
    · simp only [List.length_cons]; omega
theorem oV_non {o : Option Int} : (!decide (oV o = V.non)) = o.isSome := by
  cases o <;> rfl
theorem goFromA_len : ∀ (i : Nat) (ks : List Wk), (goFrom i ks).length = (onFrom i ks).length := fun i ks => by rw [goFrom_on, List.length_map]
def sp_Device_shown_on (K : PySem.W.Frag) : Sp := fun vs H Q _ => ∃ (a : DA) (ks : List Wk) (took : Bool) (g : GH), vs = [.ref a.d] ∧ DevAt K H a ks took g ∧ ks.length ≤ 6 ∧
  ∀ H' D ps, H D = none → TupsAt H' D ps ((goFrom 0 ks).map goV) → Same H H' → Q (.ref D) H'
theorem ok_Device_shown_on (T : T w K mg) : FnR P w K mg base CX0 3 (He.ma K (He.ga K "Device") "shown_on") (sp_Device_shown_on K) := by
  have F_Device_numbers_on : FnR P w K mg base CX0 2 _ _ := ok_Device_numbers_on T
  obtain ⟨fd, F⟩ := T.f_Device_shown_on
  refine F.r sc_Device_shown_on (fun _ _ _ _ _ _ us hl => match us, hl with | [_], _ => rfl) (fun vs H Q E h => ?_) (fun cdv A outer s H vs Q E hr h => ?_)
  · obtain ⟨_, _, _, _, rfl, _⟩ := h
    rfl
  · obtain ⟨a, ks, took, g, rfl, D, h6, q⟩ := h
    refine ⟨_, (pss_cons (ps_setLc (i := 1) (own := [("number", 2)]) (g := gName 2) (tt := tYes) (te := tTup (tCons (tVar 2) (tCons (tFld K (tOp (rIxL K) (tFld K (tVar 0) "works") (tVar 2)) "going") tNil))) rfl sc_Device_shown_on.nd rfl rfl (sw_true rfl rfl rfl (by decide +kernel))
        (pi_list (pe_mth0R (pv 0) T.cl_Device T.m_Device_numbers_on F_Device_numbers_on (hr.mono (by decide))))
        (blkOk_by (N := ["self", "on", "number", "going"]) (sc := defScope s_Device_shown_on) (by decide +kernel))
        (fun _ _ _ _ _ => pg_name (i := 2) sc_Device_shown_on.nd rfl (Or.inl rfl)) (fun _ _ _ _ _ => pts_nil)
        (fun _ _ _ _ _ => pe_tup (pa_cons (pv 2) (pa_cons (pe_fld (pe_ix ix_list (pe_fld (pv 0) rfl) (pv 2) (fun _ _ => rfl)) rfl) pa_nil))))
      (pss_one (ps_ret (pe_lc (own := [("number", 2), ("going", 3)]) (g := gTup K 2 (gCons (gName 2) (gCons (gName 3) gNil))) (tt := tYes) (te := tTup (tCons (tVar 2) (tCons (tCB (fun xs H Q => ∃ p ys, xs = [.ref p] ∧ (SqL K H p ys ∨ SqT K H p ys) ∧ Q (.int ys.length) H) (tCons (tFld K (tVar 3) "puts") tNil)) (tCons (tNotN (tFld K (tVar 3) "hand")) tNil)))) rfl sc_Device_shown_on.nd (pi_list (pv 1))
        (blkOk_by (N := ["self", "on", "number", "going"]) (sc := defScope s_Device_shown_on) (by decide +kernel))
        (fun _ _ _ _ _ => pg_tup rfl (pgs_cons (pg_name (i := 2) sc_Device_shown_on.nd rfl (Or.inl rfl)) (pgs_cons (pg_name (i := 3) sc_Device_shown_on.nd rfl (Or.inl rfl)) pgs_nil)))
        (fun _ _ _ _ _ => pts_nil)
        (fun _ _ _ _ _ => pe_tup (pa_cons (pv 2) (pa_cons (pe_callB call_len_seq rfl T.u_len PySem.boot_len (pa_cons (pe_fld (pv 3) rfl) pa_nil)) (pa_cons (pe_cmp (pc_notN (pe_fld (pv 3) rfl))) pa_nil)))))))), ?_⟩
    refine ⟨_, rfl, _, _, _, rfl, D.ob, dv_no_numbers_on _, ?_⟩
    refine ⟨a, ks, took, g, rfl, D, h6, fun H1 N hN hN1 s1 => ?_⟩
    have D1 := D.same s1
    have lmem : ∀ {i : Nat} {p : Nat × Wk}, (onFrom 0 ks)[i]? = some p → ks[p.1]? = some p.2 ∧ p.2.on = true := fun {i p} h => by
      obtain ⟨_, h2, h3⟩ := onFrom_mem 0 ks p.1 p.2 (List.mem_of_getElem? h)
      exact ⟨by simpa using h2, h3⟩
    have l6 : (onFrom 0 ks).length ≤ 6 := Nat.le_trans (onFrom_len 0 ks) h6
    refine ⟨N, rfl, ⟨_, SqL.of hN1⟩, fun R hR => ?_⟩
    refine lc_list (K := K) (a := N) (xs := (onFrom 0 ks).map fun p => V.int (p.1 : Int)) (fun i H2 => ∃ ps, TupsAt H2 R ps (((onFrom 0 ks).take i).map fun p => [V.int (p.1 : Int), oA (goA a.gas g.cur[p.1]?)]) ∧ Same H1 H2)
      ⟨[], ⟨upd_same, rfl, fun j p vs e => by simp at e⟩, Same.new (Same.refl H1) hR⟩ (fun i H2 _ ⟨_, _, s2⟩ => SqL.of (s2 _ _ hN1)) ?_ ?_
    · rintro i x H2 hx ⟨ps, tp, s2⟩
      rw [List.getElem?_map] at hx
      cases ht : (onFrom 0 ks)[i]? with
      | none => rw [ht] at hx; cases hx
      | some p =>
        rw [ht] at hx
        cases hx
        obtain ⟨hk, ho⟩ := lmem ht
        have D2 := D1.same s2
        obtain ⟨x, x1, x2⟩ := D2.get hk
        have hi : i < (onFrom 0 ks).length := (List.getElem?_eq_some_iff.mp ht).1
        refine ⟨rfl, yes ?_⟩
        refine ⟨_, rfl, ?_⟩ -- number
        refine ⟨_, rfl, _, _, _, _, _, rfl, D2.ob, T.cl_Device, T.n_Device_works, dv_works _, ?_⟩
        refine ⟨_, rfl, ?_⟩ -- number
        refine ⟨_, _, _, _, rfl, rfl, SqL.of D2.lst, at_ref (n := (p.1 : Int)) (by omega) (by simpa using x1), ?_⟩
        refine ⟨_, _, _, _, _, rfl, x2, T.cl_Work, T.n_Work_going, wo_going _, ?_⟩
        refine ⟨by show 2 ≤ sizeLine; decide, fun t ht2 => ?_⟩
        have nR : R ≠ t := ne_of_none tp.lst ht2
        refine ⟨_, by rw [upd_ne nR]; exact tp.lst, ?_, ps ++ [t], ?_, ?_⟩
        · rw [List.length_map, tp.len, List.length_map, List.length_take]
          exact Nat.lt_of_le_of_lt (Nat.le_trans (Nat.min_le_right _ _) l6) (by decide)
        · rw [List.take_add_one, ht]
          show TupsAt _ R (ps ++ [t]) (((onFrom 0 ks).take i ++ [p]).map _)
          rw [List.map_append]
          have := tp.snoc (vs := [V.int (p.1 : Int), oA (goA a.gas g.cur[p.1]?)]) ht2
          rw [List.map_append] at this
          exact this
        · have nH : H1 t = none := Same.free s2 ht2
          exact Same.new (Same.new s2 nH) hR
    · rintro H2 ⟨ps, tp, s2⟩
      rw [List.length_map, List.take_length] at tp
      have D2 := D1.same s2
      refine ⟨_, rfl, R, rfl, ⟨_, SqL.of tp.lst⟩, fun R2 hR2 => ?_⟩
      refine lc_list (K := K) (a := R) (xs := ps.map V.ref) (fun i H3 => ∃ ps3, TupsAt H3 R2 ps3 (((onFrom 0 ks).take i).map fun p => goV ((p.1 : Int), p.2.laid, p.2.hand.isSome)) ∧ Same H2 H3)
        ⟨[], ⟨upd_same, rfl, fun j p vs e => by simp at e⟩, Same.new (Same.refl H2) hR2⟩ (fun i H3 _ ⟨_, _, s3⟩ => SqL.of (s3 _ _ tp.lst)) ?_ ?_
      · rintro i x H3 hx ⟨ps3, tp3, s3⟩
        rw [List.getElem?_map] at hx
        cases ht : ps[i]? with
        | none => rw [ht] at hx; cases hx
        | some t =>
          rw [ht] at hx
          cases hx
          have hi : i < (onFrom 0 ks).length := by
            have := (List.getElem?_eq_some_iff.mp ht).1
            rw [tp.len, List.length_map] at this
            exact this
          obtain ⟨p, hp⟩ : ∃ p, (onFrom 0 ks)[i]? = some p := ⟨_, List.getElem?_eq_getElem hi⟩
          obtain ⟨hk, ho⟩ := lmem hp
          have htt : H2 t = some (.tup [V.int (p.1 : Int), oA (goA a.gas g.cur[p.1]?)]) := tp.at_ i t _ ht (by rw [List.getElem?_map, hp]; rfl)
          have D3 := D2.same s3
          obtain ⟨i', e', x', y', c1, c2, c3, c4, c5, c6, c7, c8, c9, c10, c11⟩ := D3.onAt hk ho
          have eg : goA a.gas g.cur[p.1]? = some y'.g := by
            rw [c1]
            show (a.gas[i']?).map _ = _
            rw [c4]
            rfl
          rw [eg] at htt
          refine ⟨t, _, rfl, .inl (.inl (s3 _ _ htt)), rfl, _, _, rfl, _, _, rfl, rfl, rfl, yes ?_⟩
          refine ⟨_, rfl, ?_⟩ -- number
          refine ⟨_, rfl, _, _, _, _, _, rfl, c10, T.cl_Going, T.n_Going_puts, gg_puts _, ?_⟩
          refine ⟨_, _, rfl, .inl (SqL.of c11.lst), ?_⟩ -- len
          refine ⟨_, rfl, _, _, _, _, _, rfl, c10, T.cl_Going, T.n_Going_hand, gg_hand _, ?_⟩
          refine ⟨by show 3 ≤ sizeLine; decide, fun u hu => ?_⟩
          rw [oV_non]
          have el : ((y'.ps.map V.ref).length : Int) = p.2.laid := by rw [List.length_map, c11.len, List.length_map]; exact c7
          rw [el]
          have nR : R2 ≠ u := ne_of_none tp3.lst hu
          refine ⟨_, by rw [upd_ne nR]; exact tp3.lst, ?_, ps3 ++ [u], ?_, ?_⟩
          · rw [List.length_map, tp3.len, List.length_map, List.length_take]
            exact Nat.lt_of_le_of_lt (Nat.le_trans (Nat.min_le_right _ _) l6) (by decide)
          · rw [List.take_add_one, hp]
            show TupsAt _ R2 (ps3 ++ [u]) (((onFrom 0 ks).take i ++ [p]).map _)
            rw [List.map_append]
            have := tp3.snoc (vs := goV ((p.1 : Int), p.2.laid, p.2.hand.isSome)) hu
            rw [List.map_append] at this
            exact this
          · exact Same.new (Same.new s3 (Same.free s3 hu)) hR2
      · rintro H3 ⟨ps3, tp3, s3⟩
        have el : (ps.map V.ref).length = (onFrom 0 ks).length := by rw [List.length_map, tp.len, List.length_map]
        rw [el, List.take_length] at tp3
        refine q _ R2 ps3 (Same.free s1 (Same.free s2 hR2)) ?_ ((s1.trans s2).trans s3)
        rw [goFrom_on, List.map_map]
        exact tp3
end
end SB

set_option Elab.async false
set_option linter.all false
set_option maxRecDepth 100000
set_option maxHeartbeats 2000000
namespace SB
open PySem L2
inductive Row where
  | set (r n : Int) | add (r s : Int) | less (r s : Int) | get (r a : Int) | put (a r : Int) | getx (r s : Int) | putx (s r : Int) | pair (r a : Int) | lay (a r : Int) | go (t : Int) | iff (r t : Int)
  | ask (w : Int) | done (r w : Int) | mark (m : Int) | clear (m : Int) | rest (n : Int) | fin
def Row.vs : Row → List V
  | .set r n => [.str "set", .int r, .int n] | .add r s => [.str "add", .int r, .int s] | .less r s => [.str "less", .int r, .int s] | .get r a => [.str "get", .int r, .int a] | .put a r => [.str "put", .int a, .int r]
  | .getx r s => [.str "getx", .int r, .int s] | .putx s r => [.str "putx", .int s, .int r] | .pair r a => [.str "pair", .int r, .int a] | .lay a r => [.str "lay", .int a, .int r] | .go t => [.str "go", .int t]
  | .iff r t => [.str "if", .int r, .int t] | .ask w => [.str "ask", .int w] | .done r w => [.str "done", .int r, .int w] | .mark m => [.str "mark", .int m] | .clear m => [.str "clear", .int m] | .rest n => [.str "rest", .int n] | .fin => [.str "end"]
def rg (lo hi x : Int) : Prop := lo ≤ x ∧ x ≤ hi
def Row.ok (n : Nat) : Row → Prop
  | .set r x => rg 0 3 r ∧ rg 0 999 x | .add r s => rg 0 3 r ∧ rg 0 3 s | .less r s => rg 0 3 r ∧ rg 0 3 s | .get r a => rg 0 3 r ∧ rg 0 31 a | .put a r => rg 0 31 a ∧ rg 0 3 r | .getx r s => rg 0 3 r ∧ rg 0 3 s | .putx s r => rg 0 3 s ∧ rg 0 3 r
  | .pair r a => rg 0 2 r ∧ rg 0 31 a | .lay a r => rg 0 31 a ∧ rg 0 2 r | .go t => 0 ≤ t ∧ t < n | .iff r t => rg 0 3 r ∧ 0 ≤ t ∧ t < n | .ask w => rg 0 5 w | .done r w => rg 0 3 r ∧ rg 0 5 w | .mark m => rg 0 2 m | .clear m => rg 0 2 m | .rest x => rg 1 9 x | .fin => True
def Row.okW (n : Nat) : Row → Prop
  | .set r x => rg 0 3 r ∧ rg 0 999 x | .add r s => rg 0 3 r ∧ rg 0 3 s | .less r s => rg 0 3 r ∧ rg 0 3 s | .get r a => rg 0 3 r ∧ rg 0 31 a | .put a r => rg 0 31 a ∧ rg 0 3 r | .getx r s => rg 0 3 r ∧ rg 0 3 s | .putx s r => rg 0 3 s ∧ rg 0 3 r
  | .pair r a => rg 0 2 r ∧ rg 0 31 a | .lay a r => rg 0 31 a ∧ rg 0 2 r | .go t => 0 ≤ t ∧ t < n | .iff r t => rg 0 3 r ∧ 0 ≤ t ∧ t < n | .ask w => rg 0 5 w | .done r w => rg 0 3 r ∧ rg 0 5 w | .mark m => rg 0 2 m | .clear m => rg 0 2 m | .rest x => rg 1 40 x | .fin => True
theorem Row.ok.w {r : Row} {n : Nat} (h : r.ok n) : r.okW n := by
  cases r with
  | rest x => exact ⟨h.1, Int.le_trans h.2 (by decide)⟩
  | _ => exact h
def Row.beats : Row → Int
  | .rest n => n | .pair _ _ => 2 | .lay _ _ => 2 | _ => 1
def Row.word (spent : Int) (cells : List Int) : Row → Option (Str × Int × Int)
  | .get r a => some ("get", a, r) | .put a r => some ("put", a, r) | .getx r s => some ("get", cells.getD s.toNat 0, r) | .putx s r => some ("put", cells.getD s.toNat 0, r)
  | .pair r a => some ("get", a + spent, r + spent) | .lay a r => some ("put", a + spent, r + spent) | _ => none
section
variable {K : PySem.W.Frag} {σ : L2.St} {H : Hp} {D : Ends} {t : Addr} {xs : List V} {n i j : Nat} {tq : TPats} {b : TS} {u : TMc} {x y : Str} {a c : V} {tp : TPat}
theorem iteP {c A B : Prop} [Decidable c] (hc : c) (h : A) : if c then A else B := by rw [if_pos hc]; exact h
theorem tm_len (ht : SqT K H t xs) (hn : xs.length ≠ n) (q : u (.ref t) D σ H) : tmCons (tpSeq K n tq) b u (.ref t) D σ H := ⟨t, xs, rfl, ht, by rw [if_neg hn]; exact q⟩
theorem tm_str (ht : SqT K H t (.str y :: xs)) (hn : xs.length + 1 = n) (hy : y ≠ x) (q : u (.ref t) D σ H) : tmCons (tpSeq K n (tqCons (tpStr x) tq)) b u (.ref t) D σ H :=
  ⟨t, _, rfl, ht, by
    rw [if_pos (by simpa using hn)]
    refine ⟨_, _, rfl, rfl, ?_⟩
    rw [if_neg (fun z => hy (V.str.inj z))]
    exact q⟩
theorem tm_hit0 (ht : SqT K H t [.str x]) (q : b D σ H) : tmCons (tpSeq K 1 (tqCons (tpStr x) tqNil)) b u (.ref t) D σ H :=
  ⟨t, _, rfl, ht, by
    refine iteP rfl ?_
    refine ⟨_, _, rfl, rfl, ?_⟩
    rw [if_pos rfl]
    exact q⟩
theorem tm_hit1 (ht : SqT K H t [.str x, a]) (q : b D (bindAll [(i, a)] σ) H) : tmCons (tpSeq K 2 (tqCons (tpStr x) (tqCons (tpName i) tqNil))) b u (.ref t) D σ H :=
  ⟨t, _, rfl, ht, by
    refine iteP rfl ?_
    refine ⟨_, _, rfl, rfl, ?_⟩
    rw [if_pos rfl]
    exact ⟨_, _, rfl, q⟩⟩
theorem tm_hit2 (ht : SqT K H t [.str x, a, c]) (q : b D (bindAll [(i, a), (j, c)] σ) H) : tmCons (tpSeq K 3 (tqCons (tpStr x) (tqCons (tpName i) (tqCons (tpName j) tqNil)))) b u (.ref t) D σ H :=
  ⟨t, _, rfl, ht, by
    refine iteP rfl ?_
    refine ⟨_, _, rfl, rfl, ?_⟩
    rw [if_pos rfl]
    exact ⟨_, _, rfl, _, _, rfl, q⟩⟩
end
section
variable {P : Program} {w : World} {K : PySem.W.Frag} {mg : Str → Option Value} {base : Heap}
def sp_beats_of (K : PySem.W.Frag) : Sp := fun vs H Q _ => ∃ (t : Addr) (r : Row), vs = [.ref t] ∧ SqT K H t r.vs ∧ ∀ H', Same H H' → Q (.int r.beats) H'
theorem ok_beats_of (T : T w K mg) : FnR P w K mg base CX0 1 (He.ga K "beats_of") (sp_beats_of K) := by
  obtain ⟨fd, F⟩ := T.f_beats_of
  refine F.r sc_beats_of (fun _ _ _ _ _ _ us hl => match us, hl with | [_], _ => rfl) (fun vs H Q E h => ?_) (fun cdv A outer s H vs Q E hr h => ?_)
  · obtain ⟨_, _, rfl, _⟩ := h
    rfl
  · obtain ⟨t, r, rfl, ht, q⟩ := h
    refine ⟨_, (pss_cons (ps_if (pt_cmpR op_eq (pe_ix ix_tup (pv 0) pe_int (fun _ _ => rfl)) pe_str (nomark _))
      (pss_one (ps_ret (pe_ix ix_tup (pv 0) pe_int (fun _ _ => rfl))))
      pss_nil)
      (pss_one (ps_ret (pe_ifExp (pt_cmpR op_in_seq (pe_ix ix_tup (pv 0) pe_int (fun _ _ => rfl)) (pe_tup (pa_cons pe_str (pa_cons pe_str pa_nil))) rfl) pe_int pe_int)))), ?_⟩
    refine ⟨_, rfl, ?_⟩ -- row
    cases r
    case rest n =>
      refine ⟨_, _, _, _, rfl, rfl, ht, rfl, ?_⟩
      refine ⟨rfl, ?_⟩
      refine ⟨_, rfl, ?_⟩
      refine iteT ?_
      refine ⟨_, rfl, ?_⟩ -- row
      refine ⟨_, _, _, _, rfl, rfl, ht, rfl, ?_⟩ -- row[1]
      exact q _ (Same.refl H)
    all_goals
      refine ⟨_, _, _, _, rfl, rfl, ht, rfl, ?_⟩
      refine ⟨rfl, ?_⟩
      refine ⟨_, rfl, ?_⟩
      rw [dec_str, decide_eq_false (by decide +kernel)]
      refine iteF ?_
      refine ⟨_, rfl, ?_⟩ -- row
      refine ⟨_, _, _, _, rfl, rfl, ht, rfl, ?_⟩ -- row[0]
      refine ⟨by show 2 ≤ sizeLine; decide, fun p hp => ?_⟩
      refine ⟨_, _, rfl, .inr (.inl (.inl upd_same)), rfl, rfl, ?_⟩
      refine ⟨_, rfl, ?_⟩ -- test
      first
        | exact iteT (q _ (Same.new (Same.refl H) hp))
        | exact iteF (q _ (Same.new (Same.refl H) hp))
        | skip
def Wtd (H H' : Hp) (v : V) : Option (Str × Int × Int) → Prop
  | none => v = .non
  | some (z, p, c) => ∃ q, v = .ref q ∧ H q = none ∧ H' q = some (.tup [.str z, .int p, .int c])
def sp_word_of (K : PySem.W.Frag) : Sp := fun vs H Q _ => ∃ (t c : Addr) (r : Row) (n : Nat) (spent : Int) (cells : List Int), vs = [.ref t, .int spent, .ref c] ∧ SqT K H t r.vs ∧ r.okW n ∧ H c = some (.lst (cells.map V.int)) ∧ cells.length = 4 ∧
  ∀ H' v, Same H H' → Wtd H H' v (r.word spent cells) → Q v H'
theorem ok_word_of (T : T w K mg) : FnR P w K mg base CX0 1 (He.ga K "word_of") (sp_word_of K) := by
  obtain ⟨fd, F⟩ := T.f_word_of
  refine F.r sc_word_of (fun _ _ _ _ _ _ us hl => match us, hl with | [_, _, _], _ => rfl) (fun vs H Q E h => ?_) (fun cdv A outer s H vs Q E hr h => ?_)
  · obtain ⟨_, _, _, _, _, _, rfl, _⟩ := h
    rfl
  · obtain ⟨t, c, r, n, spent, cells, rfl, ht, hok, hc, hl, q⟩ := h
    refine ⟨_, (pss_cons (ps_match (pv 0) (pm_cons sc_word_of.nd (pp_seq rfl (pq_cons pp_str (pq_cons (pp_name (i := 3) rfl (Or.inl rfl)) (pq_cons (pp_name (i := 4) rfl (Or.inl rfl)) pq_nil)))) (pss_one (ps_ret (pe_tup (pa_cons pe_str (pa_cons (pv 4) (pa_cons (pv 3) pa_nil))))))
      (pm_cons sc_word_of.nd (pp_seq rfl (pq_cons pp_str (pq_cons (pp_name (i := 4) rfl (Or.inl rfl)) (pq_cons (pp_name (i := 3) rfl (Or.inl rfl)) pq_nil)))) (pss_one (ps_ret (pe_tup (pa_cons pe_str (pa_cons (pv 4) (pa_cons (pv 3) pa_nil))))))
      (pm_cons sc_word_of.nd (pp_seq rfl (pq_cons pp_str (pq_cons (pp_name (i := 3) rfl (Or.inl rfl)) (pq_cons (pp_name (i := 5) rfl (Or.inl rfl)) pq_nil)))) (pss_one (ps_ret (pe_tup (pa_cons pe_str (pa_cons (pe_ix ix_list (pv 2) (pv 5) (fun _ _ => rfl)) (pa_cons (pv 3) pa_nil))))))
      (pm_cons sc_word_of.nd (pp_seq rfl (pq_cons pp_str (pq_cons (pp_name (i := 5) rfl (Or.inl rfl)) (pq_cons (pp_name (i := 3) rfl (Or.inl rfl)) pq_nil)))) (pss_one (ps_ret (pe_tup (pa_cons pe_str (pa_cons (pe_ix ix_list (pv 2) (pv 5) (fun _ _ => rfl)) (pa_cons (pv 3) pa_nil))))))
      (pm_cons sc_word_of.nd (pp_seq rfl (pq_cons pp_str (pq_cons (pp_name (i := 3) rfl (Or.inl rfl)) (pq_cons (pp_name (i := 4) rfl (Or.inl rfl)) pq_nil)))) (pss_one (ps_ret (pe_tup (pa_cons pe_str (pa_cons (pe_op op_add (pv 4) (pv 1)) (pa_cons (pe_op op_add (pv 3) (pv 1)) pa_nil))))))
      (pm_cons sc_word_of.nd (pp_seq rfl (pq_cons pp_str (pq_cons (pp_name (i := 4) rfl (Or.inl rfl)) (pq_cons (pp_name (i := 3) rfl (Or.inl rfl)) pq_nil)))) (pss_one (ps_ret (pe_tup (pa_cons pe_str (pa_cons (pe_op op_add (pv 4) (pv 1)) (pa_cons (pe_op op_add (pv 3) (pv 1)) pa_nil))))))
      pm_nil)))))))
      (pss_one (ps_ret pe_non))), ?_⟩
    have three : ([V.non, .non, .non] : List V).length ≤ sizeLine := by show 3 ≤ sizeLine; decide
    cases r
    all_goals
      have ht2 := ht
      refine ⟨_, rfl, ?_⟩
      repeat (first | refine tm_hit2 ht2 ?_ | refine tm_len ht2 (Nat.ne_of_beq_eq_false rfl) ?_ | refine tm_str ht2 rfl (by decide +kernel) ?_)
    case get r a =>
      exact ⟨_, rfl, _, rfl, three, fun p hp => q _ _ (Same.new (Same.refl H) hp) ⟨p, rfl, hp, upd_same⟩⟩
    case put a r =>
      exact ⟨_, rfl, _, rfl, three, fun p hp => q _ _ (Same.new (Same.refl H) hp) ⟨p, rfl, hp, upd_same⟩⟩
    case getx r x =>
      exact ⟨_, rfl, _, rfl, _, _, _, _, rfl, rfl, SqL.of hc, at_int hok.2.1 (by have := hok.2.2; omega), _, rfl, three, fun p hp => q _ _ (Same.new (Same.refl H) hp) ⟨p, rfl, hp, upd_same⟩⟩
    case putx x r =>
      exact ⟨_, rfl, _, rfl, _, _, _, _, rfl, rfl, SqL.of hc, at_int hok.1.1 (by have := hok.1.2; omega), _, rfl, three, fun p hp => q _ _ (Same.new (Same.refl H) hp) ⟨p, rfl, hp, upd_same⟩⟩
    case pair r a =>
      exact ⟨_, rfl, _, rfl, _, _, rfl, rfl, _, rfl, _, rfl, _, _, rfl, rfl, three, fun p hp => q _ _ (Same.new (Same.refl H) hp) ⟨p, rfl, hp, upd_same⟩⟩
    case lay a r =>
      exact ⟨_, rfl, _, rfl, _, _, rfl, rfl, _, rfl, _, rfl, _, _, rfl, rfl, three, fun p hp => q _ _ (Same.new (Same.refl H) hp) ⟨p, rfl, hp, upd_same⟩⟩
    all_goals exact q H .non (Same.refl H) rfl
end
end SB

set_option Elab.async false
set_option linter.all false
set_option maxRecDepth 100000
set_option maxHeartbeats 2000000
namespace SB
open PySem L2
structure MS where
  cells : List Int
  marks : List Bool
  row : Int
  spent : Int
structure ProgAt (K : PySem.W.Frag) (H : Hp) (pa : Addr) (rs : List Addr) (prog : List Row) : Prop where
  tup : SqT K H pa (rs.map V.ref)
  len : rs.length = prog.length
  at_ : ∀ (j : Nat) (t : Addr) (r : Row), rs[j]? = some t → prog[j]? = some r → SqT K H t r.vs
structure McAt (K : PySem.W.Frag) (H : Hp) (m dm pa : Addr) (rs : List Addr) (prog : List Row) (c k : Addr) (S : MS) : Prop where
  ob : H m = some (.ins (cMachine K) dm (mcF ⟨pa, c, k, S.row, S.spent⟩))
  pr : ProgAt K H pa rs prog
  hc : H c = some (.lst (S.cells.map V.int))
  hk : H k = some (.lst (S.marks.map V.bl))
  ck : c ≠ k
structure MOk (prog : List Row) (S : MS) : Prop where
  c4 : S.cells.length = 4
  m3 : S.marks.length = 3
  row0 : 0 ≤ S.row
  rown : S.row ≤ prog.length
  sp0 : 0 ≤ S.spent
  sp1 : ∀ r, prog[S.row.toNat]? = some r → S.spent < r.beats
  rows : ∀ r ∈ prog, r.okW prog.length
def wantedOf (prog : List Row) (S : MS) : Option (Str × Int × Int) := match prog[S.row.toNat]? with
  | none => none
  | some r => r.word S.spent S.cells
theorem tup_keep {K : PySem.W.Frag} {H H' : Hp} {as : List Addr} {a : Addr} {xs : List V} (h : SqT K H a xs) (k : Kept as H H') (hn : ∀ b ∈ as, ∃ u, H b = some u ∧ notTup u = true) : SqT K H' a xs := by
  rcases h with (h | ⟨o, h⟩) | h
  · refine .inl (.inl (k _ _ h fun m => ?_))
    obtain ⟨u, e, z⟩ := hn a m
    rw [h] at e
    cases e
    cases z
  · refine .inl (.inr ⟨o, k _ _ h fun m => ?_⟩)
    obtain ⟨u, e, z⟩ := hn a m
    rw [h] at e
    cases e
    cases z
  · exact .inr h
theorem ProgAt.keep {K : PySem.W.Frag} {H H' : Hp} {as : List Addr} {pa : Addr} {rs : List Addr} {prog : List Row} (h : ProgAt K H pa rs prog) (k : Kept as H H') (hn : ∀ b ∈ as, ∃ u, H b = some u ∧ notTup u = true) : ProgAt K H' pa rs prog :=
  ⟨tup_keep h.tup k hn, h.len, fun j t r e1 e2 => tup_keep (h.at_ j t r e1 e2) k hn⟩
theorem ProgAt.same {K : PySem.W.Frag} {H H' : Hp} {pa : Addr} {rs : List Addr} {prog : List Row} (h : ProgAt K H pa rs prog) (s : Same H H') : ProgAt K H' pa rs prog := h.keep (Kept.same (as := []) s) (by simp)
theorem ProgAt.get {K : PySem.W.Frag} {H : Hp} {pa : Addr} {rs : List Addr} {prog : List Row} (h : ProgAt K H pa rs prog) {j : Nat} {r : Row} (e : prog[j]? = some r) : ∃ t, rs[j]? = some t ∧ SqT K H t r.vs := by
  have h1 : j < rs.length := by rw [h.len]; exact (List.getElem?_eq_some_iff.mp e).1
  exact ⟨_, List.getElem?_eq_getElem h1, h.at_ j _ r (List.getElem?_eq_getElem h1) e⟩
theorem at_rf {rs : List Addr} {n : Int} {t : Addr} (h0 : 0 ≤ n) (h : rs[n.toNat]? = some t) : atI (rs.map V.ref) n = some (.ref t) := by
  unfold atI ixN
  have h1 : n.toNat < rs.length := (List.getElem?_eq_some_iff.mp h).1
  rw [if_pos h0, List.length_map, if_pos (by omega)]
  show (rs.map _)[n.toNat]? = _
  rw [List.getElem?_map, h]
  rfl
theorem dec_int' {x y : Int} : decide (V.int x = V.int y) = decide (x = y) := by
  by_cases z : x = y
  · rw [decide_eq_true z, decide_eq_true (by rw [z])]
  · rw [decide_eq_false z, decide_eq_false (fun y => z (V.int.inj y))]
def orS : List Str → TPat
  | [] => tpNo
  | a :: r => tpElse (tpStr a) (orS r)
section
variable {K : PySem.W.Frag} {σ : L2.St} {H : Hp} {D : Ends} {t : Addr} {i j : Nat} {b : TS} {u : TMc} {y : Str} {a c : V}
theorem orS_yes {Q : Bd → Hp → Prop} : ∀ {l : List Str}, y ∈ l → Q (some []) H → orS l (.str y) σ H Q
  | [], h, _ => by cases h
  | x :: r, h, q => by
    refine ⟨rfl, ?_⟩
    by_cases e : y = x
    · rw [if_pos (by rw [e])]
      exact q
    · rw [if_neg (fun z => e (V.str.inj z))]
      exact orS_yes (by
        rcases List.mem_cons.mp h with z | z
        · exact absurd z e
        · exact z) q
theorem orS_no {Q : Bd → Hp → Prop} : ∀ {l : List Str}, y ∉ l → Q none H → orS l (.str y) σ H Q
  | [], _, q => q
  | x :: r, h, q => by
    refine ⟨rfl, ?_⟩
    rw [if_neg (fun z => h (by rw [V.str.inj z]; exact List.mem_cons_self))]
    exact orS_no (fun z => h (List.mem_cons_of_mem _ z)) q
theorem tm_or2 {l : List Str} (ht : SqT K H t [.str y, a, c]) (hy : y ∈ l) (q : b D (bindAll [(i, a), (j, c)] σ) H) : tmCons (tpSeq K 3 (tqCons (tpOr (orS l)) (tqCons (tpName i) (tqCons (tpName j) tqNil)))) b u (.ref t) D σ H :=
  ⟨t, _, rfl, ht, iteP rfl ⟨_, _, rfl, orS_yes hy ⟨_, _, rfl, _, _, rfl, q⟩⟩⟩
theorem tm_or2n {l : List Str} {tq : TPats} {n : Nat} {xs : List V} (ht : SqT K H t (.str y :: xs)) (hn : xs.length + 1 = n) (hy : y ∉ l) (q : u (.ref t) D σ H) : tmCons (tpSeq K n (tqCons (tpOr (orS l)) tq)) b u (.ref t) D σ H :=
  ⟨t, _, rfl, ht, iteP (by simpa using hn) ⟨_, _, rfl, orS_no hy q⟩⟩
end
section
variable {P : Program} {w : World} {K : PySem.W.Frag} {mg : Str → Option Value} {base : Heap}
variable {H H' : Hp} {m dm pa c k : Addr} {rs : List Addr} {prog : List Row} {S : MS}
theorem McAt.same (M : McAt K H m dm pa rs prog c k S) (s : Same H H') : McAt K H' m dm pa rs prog c k S := ⟨s _ _ M.ob, M.pr.same s, s _ _ M.hc, s _ _ M.hk, M.ck⟩
def sp_Machine_ended (K : PySem.W.Frag) : Sp := fun vs H Q _ => ∃ (m dm pa c k : Addr) (rs : List Addr) (prog : List Row) (S : MS), vs = [.ref m] ∧ McAt K H m dm pa rs prog c k S ∧ Q (.bl (decide (S.row = prog.length))) H
theorem ok_Machine_ended (T : T w K mg) : FnR P w K mg base CX0 1 (He.ma K (He.ga K "Machine") "ended") (sp_Machine_ended K) := by
  obtain ⟨fd, F⟩ := T.f_Machine_ended
  refine F.r sc_Machine_ended (fun _ _ _ _ _ _ us hl => match us, hl with | [_], _ => rfl) (fun vs H Q E h => ?_) (fun cdv A outer s H vs Q E hr h => ?_)
  · obtain ⟨_, _, _, _, _, _, _, _, rfl, _⟩ := h
    rfl
  · obtain ⟨m, dm, pa, c, k, rs, prog, S, rfl, M, q⟩ := h
    refine ⟨_, (pss_one (ps_ret (pe_cmpR op_eq (pe_fld (pv 0) rfl) (pe_callB call_len_seq rfl T.u_len PySem.boot_len (pa_cons (pe_fld (pv 0) rfl) pa_nil)) (nomark _)))), ?_⟩
    refine ⟨_, rfl, _, _, _, _, _, rfl, M.ob, T.cl_Machine, T.n_Machine_row, mc_row _, ?_⟩
    refine ⟨_, rfl, _, _, _, _, _, rfl, M.ob, T.cl_Machine, T.n_Machine_program, mc_program _, ?_⟩
    refine ⟨_, _, rfl, .inr M.pr.tup, ?_⟩ -- len
    refine ⟨rfl, ?_⟩ -- self.row == len(self.program)
    rw [dec_int', List.length_map, M.pr.len]
    exact q
def sp_Machine_wanted (K : PySem.W.Frag) : Sp := fun vs H Q _ => ∃ (m dm pa c k : Addr) (rs : List Addr) (prog : List Row) (S : MS), vs = [.ref m] ∧ McAt K H m dm pa rs prog c k S ∧ MOk prog S ∧ ∀ H' v, Same H H' → Wtd H H' v (wantedOf prog S) → Q v H'
theorem ok_Machine_wanted (T : T w K mg) : FnR P w K mg base CX0 2 (He.ma K (He.ga K "Machine") "wanted") (sp_Machine_wanted K) := by
  have F_Machine_ended : FnR P w K mg base CX0 1 _ _ := ok_Machine_ended T
  have F_word_of : FnR P w K mg base CX0 1 _ _ := ok_word_of T
  obtain ⟨fd, F⟩ := T.f_Machine_wanted
  refine F.r sc_Machine_wanted (fun _ _ _ _ _ _ us hl => match us, hl with | [_], _ => rfl) (fun vs H Q E h => ?_) (fun cdv A outer s H vs Q E hr h => ?_)
  · obtain ⟨_, _, _, _, _, _, _, _, rfl, _⟩ := h
    rfl
  · obtain ⟨m, dm, pa, c, k, rs, prog, S, rfl, M, O, q⟩ := h
    refine ⟨_, (pss_cons (ps_if (pt_val (pe_mth0R (pv 0) T.cl_Machine T.m_Machine_ended F_Machine_ended (hr.mono (by decide))))
      (pss_one (ps_ret pe_non))
      pss_nil)
      (pss_one (ps_ret (pe_callR F_word_of (hr.mono (by decide)) rfl T.g_word_of T.k_word_of (pa_cons (pe_ix ix_tup (pe_fld (pv 0) rfl) (pe_fld (pv 0) rfl) (fun _ _ => rfl)) (pa_cons (pe_fld (pv 0) rfl) (pa_cons (pe_fld (pv 0) rfl) pa_nil))))))), ?_⟩
    refine ⟨_, rfl, ?_⟩ -- self
    refine ⟨_, _, _, rfl, M.ob, mc_no_ended _, ?_⟩
    refine ⟨m, dm, pa, c, k, rs, prog, S, rfl, M, ?_⟩ -- self.ended()
    refine ⟨_, rfl, ?_⟩ -- test
    have r0 := O.row0
    have rn := O.rown
    unfold wantedOf at q
    refine ite2 (fun c1 => ?_) (fun c1 => ?_) -- if self.ended()
    · have c2 : S.row = prog.length := of_decide_eq_true c1
      have e1 : prog[S.row.toNat]? = none := List.getElem?_eq_none (by omega)
      rw [e1] at q
      exact q H _ (Same.refl H) rfl
    · have c2 : ¬ S.row = prog.length := fun z => c1 (decide_eq_true z)
      have e1 : prog[S.row.toNat]? = some prog[S.row.toNat] := List.getElem?_eq_getElem (by omega)
      rw [e1] at q
      obtain ⟨t, e2, e3⟩ := M.pr.get e1
      refine ⟨_, rfl, _, _, _, _, _, rfl, M.ob, T.cl_Machine, T.n_Machine_program, mc_program _, ?_⟩
      refine ⟨_, rfl, _, _, _, _, _, rfl, M.ob, T.cl_Machine, T.n_Machine_row, mc_row _, ?_⟩
      refine ⟨_, _, _, _, rfl, rfl, M.pr.tup, at_rf r0 e2, ?_⟩ -- self.program[self.row]
      refine ⟨_, rfl, _, _, _, _, _, rfl, M.ob, T.cl_Machine, T.n_Machine_spent, mc_spent _, ?_⟩
      refine ⟨_, rfl, _, _, _, _, _, rfl, M.ob, T.cl_Machine, T.n_Machine_cells, mc_cells _, ?_⟩
      exact ⟨t, c, _, prog.length, S.spent, S.cells, rfl, e3, O.rows _ (List.mem_of_getElem? e1), M.hc, O.c4, q⟩
def useW (z : Str) (p cl : Int) (cells ws : List Int) : List Int × List Int × Int × Int :=
  if z = "get" then (cells.set cl.toNat (ws.getD (p % ws.length).toNat 0), ws, p % ws.length, ws.getD (p % ws.length).toNat 0)
  else (cells, ws.set (p % ws.length).toNat (cells.getD cl.toNat 0), p % ws.length, cells.getD cl.toNat 0)
def sp_Machine_use_word (K : PySem.W.Frag) : Sp := fun vs H Q _ => ∃ (m dm pa c k wq lw : Addr) (row spent : Int) (cells ws : List Int) (z : Str) (p cl : Int), vs = [.ref m, .ref wq, .ref lw] ∧ H m = some (.ins (cMachine K) dm (mcF ⟨pa, c, k, row, spent⟩)) ∧
  H c = some (.lst (cells.map V.int)) ∧ H lw = some (.lst (ws.map V.int)) ∧ SqT K H wq [.str z, .int p, .int cl] ∧ c ≠ lw ∧ 0 < ws.length ∧ 0 ≤ cl ∧ cl < cells.length ∧
  ∀ H' q, H q = none → H' q = some (.tup [.str z, .int (useW z p cl cells ws).2.2.1, .int (useW z p cl cells ws).2.2.2]) → H' c = some (.lst ((useW z p cl cells ws).1.map V.int)) → H' lw = some (.lst ((useW z p cl cells ws).2.1.map V.int)) → Kept [c, lw] H H' → Q (.ref q) H'
theorem ok_Machine_use_word (T : T w K mg) : FnR P w K mg base CX0 1 (He.ma K (He.ga K "Machine") "use_word") (sp_Machine_use_word K) := by
  obtain ⟨fd, F⟩ := T.f_Machine_use_word
  refine F.r sc_Machine_use_word (fun _ _ _ _ _ _ us hl => match us, hl with | [_, _, _], _ => rfl) (fun vs H Q E h => ?_) (fun cdv A outer s H vs Q E hr h => ?_)
  · obtain ⟨_, _, _, _, _, _, _, _, _, _, _, _, _, _, rfl, _⟩ := h
    rfl
  · obtain ⟨m, dm, pa, c, k, wq, lw, row, spent, cells, ws, z, p, cl, rfl, hself, hc, hl, hT, hcl, hw, l0, l1, q⟩ := h
    obtain ⟨m0, m1⟩ := mod_rg (x := p) hw
    refine ⟨_, (pss_cons (ps_asg (pv 1) (pg_tup rfl (pgs_cons (pg_name (i := 3) sc_Machine_use_word.nd rfl (Or.inl rfl)) (pgs_cons (pg_name (i := 4) sc_Machine_use_word.nd rfl (Or.inl rfl)) (pgs_cons (pg_name (i := 5) sc_Machine_use_word.nd rfl (Or.inl rfl)) pgs_nil)))))
      (pss_cons (ps_set (i := 6) sc_Machine_use_word.nd rfl (Or.inl rfl) (pe_op op_mod (pv 4) (pe_callB call_len_seq rfl T.u_len PySem.boot_len (pa_cons (pv 2) pa_nil))))
      (pss_cons (ps_if (pt_cmpR op_eq (pv 3) pe_str (nomark _))
      (pss_one (ps_asg (pe_ix ix_list (pv 2) (pv 6) (fun _ _ => rfl)) (pg_sub (pe_fld (pv 0) rfl) (pv 5) set_list)))
      (pss_one (ps_asg (pe_ix ix_list (pe_fld (pv 0) rfl) (pv 5) (fun _ _ => rfl)) (pg_sub (pv 2) (pv 6) set_list))))
      (pss_one (ps_ret (pe_tup (pa_cons (pv 3) (pa_cons (pv 6) (pa_cons (pe_ix ix_list (pv 2) (pv 6) (fun _ _ => rfl)) pa_nil))))))))), ?_⟩
    refine ⟨_, rfl, ?_⟩ -- wanted
    refine ⟨_, _, rfl, hT, rfl, _, _, rfl, _, _, rfl, _, _, rfl, rfl, ?_⟩ -- deed, place, cell = wanted
    refine ⟨_, rfl, ?_⟩ -- place
    refine ⟨_, rfl, ?_⟩ -- words
    refine ⟨_, _, rfl, .inl (SqL.of hl), ?_⟩ -- len
    rw [List.length_map]
    refine ⟨_, _, rfl, rfl, (by omega), ?_⟩ -- place % len(words)
    refine ⟨_, rfl, ?_⟩ -- deed
    refine ⟨rfl, ?_⟩ -- deed == 'get'
    refine ⟨_, rfl, ?_⟩ -- test
    rw [dec_str]
    have three : ([V.non, .non, .non] : List V).length ≤ sizeLine := by show 3 ≤ sizeLine; decide
    by_cases g : z = "get"
    · rw [decide_eq_true g]
      have eu : useW z p cl cells ws = (cells.set cl.toNat (ws.getD (p % ws.length).toNat 0), ws, p % ws.length, ws.getD (p % ws.length).toNat 0) := by unfold useW; rw [if_pos g]
      rw [eu] at q
      refine iteT ?_
      refine ⟨_, rfl, ?_⟩ -- words
      refine ⟨_, rfl, ?_⟩ -- address
      refine ⟨_, _, _, _, rfl, rfl, SqL.of hl, at_int m0 m1, ?_⟩ -- words[address]
      refine ⟨_, rfl, _, _, _, _, _, rfl, hself, T.cl_Machine, T.n_Machine_cells, mc_cells _, ?_⟩
      refine ⟨_, rfl, ?_⟩ -- cell
      refine ⟨_, _, _, _, rfl, rfl, hc, ix_ok l0 (by rw [List.length_map]; exact l1), ?_⟩ -- self.cells[cell] = words[address]
      rw [set_int]
      have hl2 : upd H c (.lst ((cells.set cl.toNat (ws.getD (p % ws.length).toNat 0)).map V.int)) lw = some (.lst (ws.map V.int)) := by rw [upd_ne (Ne.symm hcl)]; exact hl
      refine ⟨_, rfl, ?_⟩ -- deed
      refine ⟨_, rfl, ?_⟩ -- address
      refine ⟨_, rfl, ?_⟩ -- words
      refine ⟨_, rfl, ?_⟩ -- address
      refine ⟨_, _, _, _, rfl, rfl, SqL.of hl2, at_int m0 m1, ?_⟩ -- words[address]
      refine ⟨three, fun y hy => ?_⟩
      have yc : y ≠ c := fun e => by rw [e, upd_same] at hy; cases hy
      rw [upd_ne yc] at hy
      exact q _ y hy upd_same (by rw [upd_ne (Ne.symm yc)]; exact upd_same) (by rw [upd_ne (ne_of_none hl hy)]; exact hl2) (((Kept.refl _ H).put (by simp)).new hy)
    · rw [decide_eq_false g]
      have eu : useW z p cl cells ws = (cells, ws.set (p % ws.length).toNat (cells.getD cl.toNat 0), p % ws.length, cells.getD cl.toNat 0) := by unfold useW; rw [if_neg g]
      rw [eu] at q
      refine iteF ?_
      refine ⟨_, rfl, _, _, _, _, _, rfl, hself, T.cl_Machine, T.n_Machine_cells, mc_cells _, ?_⟩
      refine ⟨_, rfl, ?_⟩ -- cell
      refine ⟨_, _, _, _, rfl, rfl, SqL.of hc, at_int l0 l1, ?_⟩ -- self.cells[cell]
      refine ⟨_, rfl, ?_⟩ -- words
      refine ⟨_, rfl, ?_⟩ -- address
      refine ⟨_, _, _, _, rfl, rfl, hl, ix_ok m0 (by rw [List.length_map]; exact m1), ?_⟩ -- words[address] = self.cells[cell]
      rw [set_int]
      refine ⟨_, rfl, ?_⟩ -- deed
      refine ⟨_, rfl, ?_⟩ -- address
      refine ⟨_, rfl, ?_⟩ -- words
      refine ⟨_, rfl, ?_⟩ -- address
      have hlt : (p % ws.length).toNat < ws.length := by omega
      have hat : atI ((ws.set (p % ws.length).toNat (cells.getD cl.toNat 0)).map V.int) (p % ws.length) = some (.int (cells.getD cl.toNat 0)) := by
        rw [at_int m0 (by rw [List.length_set]; exact m1)]
        simp [List.getD, List.getElem?_set_self hlt]
      refine ⟨_, _, _, _, rfl, rfl, SqL.of upd_same, hat, ?_⟩ -- words[address]
      refine ⟨three, fun y hy => ?_⟩
      have yl : y ≠ lw := fun e => by rw [e, upd_same] at hy; cases hy
      rw [upd_ne yl] at hy
      exact q _ y hy upd_same (by rw [upd_ne (ne_of_none hc hy), upd_ne hcl]; exact hc) (by rw [upd_ne (Ne.symm yl)]; exact upd_same) (((Kept.refl _ H).put (by simp)).new hy)
def reck (z : Str) (worth other : Int) (cells : List Int) (ks : List Wk) : Int :=
  if z = "set" then other else if z = "done" then (if isOn ks other = true then 0 else 1) else if z = "add" then (worth + cells.getD other.toNat 0) % 1000 else if worth < cells.getD other.toNat 0 then 1 else 0
def sp_Machine_reckoned (K : PySem.W.Frag) : Sp := fun vs H Q _ => ∃ (m dm pa c k : Addr) (a : DA) (row spent : Int) (cells : List Int) (ks : List Wk) (took : Bool) (g : GH) (z : Str) (worth other : Int), vs = [.ref m, .str z, .int worth, .int other, .ref a.d] ∧
  H m = some (.ins (cMachine K) dm (mcF ⟨pa, c, k, row, spent⟩)) ∧ H c = some (.lst (cells.map V.int)) ∧ DevAt K H a ks took g ∧ 0 ≤ other ∧ (z = "set" ∨ z = "done" ∨ other < cells.length) ∧ Q (.int (reck z worth other cells ks)) H
theorem ok_Machine_reckoned (T : T w K mg) : FnR P w K mg base CX0 2 (He.ma K (He.ga K "Machine") "reckoned") (sp_Machine_reckoned K) := by
  have F_Device_is_on : FnR P w K mg base CX0 1 _ _ := ok_Device_is_on T
  obtain ⟨tw, g_WORTHS⟩ := T.i_WORTHS
  obtain ⟨fd, F⟩ := T.f_Machine_reckoned
  refine F.r sc_Machine_reckoned (fun _ _ _ _ _ _ us hl => match us, hl with | [_, _, _, _, _], _ => rfl) (fun vs H Q E h => ?_) (fun cdv A outer s H vs Q E hr h => ?_)
  · obtain ⟨_, _, _, _, _, _, _, _, _, _, _, _, _, _, _, rfl, _⟩ := h
    rfl
  · obtain ⟨m, dm, pa, c, k, a, row, spent, cells, ks, took, g, z, worth, other, rfl, hself, hc, D, o0, o1, q⟩ := h
    refine ⟨_, (pss_cons (ps_if (pt_cmpR op_eq (pv 1) pe_str (nomark _))
      (pss_one (ps_ret (pv 3)))
      pss_nil)
      (pss_cons (ps_if (pt_cmpR op_eq (pv 1) pe_str (nomark _))
      (pss_one (ps_ret (pe_ifExp (pt_val (pe_mthR (pv 4) T.cl_Device T.m_Device_is_on F_Device_is_on (hr.mono (by decide)) (pa_cons (pv 3) pa_nil))) pe_int pe_int)))
      pss_nil)
      (pss_cons (ps_if (pt_cmpR op_eq (pv 1) pe_str (nomark _))
      (pss_one (ps_ret (pe_op op_mod (pe_op op_add (pv 2) (pe_ix ix_list (pe_fld (pv 0) rfl) (pv 3) (fun _ _ => rfl))) (pe_glob (v := .int 1000) rfl g_WORTHS ⟨_, rfl⟩))))
      pss_nil)
      (pss_one (ps_ret (pe_ifExp (pt_cmpR op_lt (pv 2) (pe_ix ix_list (pe_fld (pv 0) rfl) (pv 3) (fun _ _ => rfl)) (nomark _)) pe_int pe_int)))))), ?_⟩
    unfold reck at q
    refine ⟨_, rfl, ?_⟩ -- deed
    refine ⟨rfl, ?_⟩ -- deed == 'set'
    refine ⟨_, rfl, ?_⟩ -- test
    rw [dec_str]
    by_cases g1 : z = "set"
    · rw [if_pos g1] at q
      rw [decide_eq_true g1]
      exact iteT ⟨_, rfl, q⟩
    · rw [if_neg g1] at q
      rw [decide_eq_false g1]
      refine iteF ?_
      refine ⟨_, rfl, ?_⟩ -- deed
      refine ⟨rfl, ?_⟩ -- deed == 'done'
      refine ⟨_, rfl, ?_⟩ -- test
      rw [dec_str]
      by_cases g2 : z = "done"
      · rw [if_pos g2] at q
        rw [decide_eq_true g2]
        refine iteT ?_
        refine ⟨_, rfl, ?_⟩ -- device
        refine ⟨_, _, _, rfl, D.ob, dv_no_is_on _, ?_⟩
        refine ⟨_, rfl, ?_⟩ -- other
        refine ⟨a, ks, took, g, other, rfl, D, o0, ?_⟩ -- device.is_on(other)
        refine ⟨_, rfl, ?_⟩ -- test
        cases ho : isOn ks other with
        | true => rw [ho] at q; exact iteT q
        | false => rw [ho] at q; exact iteF q
      · rw [if_neg g2] at q
        rw [decide_eq_false g2]
        have o2 : other < cells.length := by
          rcases o1 with y | y | y
          · exact absurd y g1
          · exact absurd y g2
          · exact y
        refine iteF ?_
        refine ⟨_, rfl, ?_⟩ -- deed
        refine ⟨rfl, ?_⟩ -- deed == 'add'
        refine ⟨_, rfl, ?_⟩ -- test
        rw [dec_str]
        by_cases g3 : z = "add"
        · rw [if_pos g3] at q
          rw [decide_eq_true g3]
          refine iteT ?_
          refine ⟨_, rfl, ?_⟩ -- worth
          refine ⟨_, rfl, _, _, _, _, _, rfl, hself, T.cl_Machine, T.n_Machine_cells, mc_cells _, ?_⟩
          refine ⟨_, rfl, ?_⟩ -- other
          refine ⟨_, _, _, _, rfl, rfl, SqL.of hc, at_int o0 o2, ?_⟩ -- self.cells[other]
          refine ⟨_, _, rfl, rfl, ?_⟩ -- worth + self.cells[other]
          exact ⟨_, _, rfl, rfl, (by show (0 : Int) < 1000; decide), q⟩ -- (worth + self.cells[other]) % WORTHS
        · rw [if_neg g3] at q
          rw [decide_eq_false g3]
          refine iteF ?_
          refine ⟨_, rfl, ?_⟩ -- worth
          refine ⟨_, rfl, _, _, _, _, _, rfl, hself, T.cl_Machine, T.n_Machine_cells, mc_cells _, ?_⟩
          refine ⟨_, rfl, ?_⟩ -- other
          refine ⟨_, _, _, _, rfl, rfl, SqL.of hc, at_int o0 o2, ?_⟩ -- self.cells[other]
          refine ⟨_, _, rfl, rfl, ?_⟩ -- worth < self.cells[other]
          refine ⟨_, rfl, ?_⟩ -- test
          refine ite2 (fun c1 => ?_) (fun c1 => ?_)
          · rw [if_pos (of_decide_eq_true c1)] at q
            exact q
          · rw [if_neg (fun y => c1 (decide_eq_true y))] at q
            exact q
end
end SB

set_option Elab.async false
set_option linter.all false
set_option maxRecDepth 100000
set_option maxHeartbeats 2000000
namespace SB
open PySem L2
def eff (n : Nat) (S : MS) (ks : List Wk) : Row → MS × List Wk
  | .go t => ({ S with row := t, spent := 0 }, ks)
  | .iff r t => ({ S with row := if S.cells.getD r.toNat 0 = 0 then S.row + 1 else t, spent := 0 }, ks)
  | .fin => ({ S with row := n, spent := 0 }, ks)
  | .ask x => ({ S with row := S.row + 1, spent := 0 }, ks.modify x.toNat Wk.start)
  | .mark x => ({ S with row := S.row + 1, spent := 0, marks := S.marks.set x.toNat true }, ks)
  | .clear x => ({ S with row := S.row + 1, spent := 0, marks := S.marks.set x.toNat false }, ks)
  | .set r x => ({ S with row := S.row + 1, spent := 0, cells := S.cells.set r.toNat (reck "set" (S.cells.getD r.toNat 0) x S.cells ks) }, ks)
  | .add r x => ({ S with row := S.row + 1, spent := 0, cells := S.cells.set r.toNat (reck "add" (S.cells.getD r.toNat 0) x S.cells ks) }, ks)
  | .less r x => ({ S with row := S.row + 1, spent := 0, cells := S.cells.set r.toNat (reck "less" (S.cells.getD r.toNat 0) x S.cells ks) }, ks)
  | .done r x => ({ S with row := S.row + 1, spent := 0, cells := S.cells.set r.toNat (reck "done" (S.cells.getD r.toNat 0) x S.cells ks) }, ks)
  | _ => ({ S with row := S.row + 1, spent := 0 }, ks)
def effG (g : GH) : Row → GH
  | .ask x => g.start x.toNat
  | _ => g
section
variable {P : Program} {w : World} {K : PySem.W.Frag} {mg : Str → Option Value} {base : Heap}
variable {H H' : Hp} {m dm pa c k : Addr} {a a' : DA} {rs : List Addr} {prog : List Row} {S : MS} {ks : List Wk} {took : Bool} {g : GH}
theorem McAt.setM (M : McAt K H m dm pa rs prog c k S) (row spent : Int) : McAt K (upd H m (.ins (cMachine K) dm (mcF ⟨pa, c, k, row, spent⟩))) m dm pa rs prog c k { S with row := row, spent := spent } := by
  have hc : c ≠ m := ne_of M.hc M.ob (by intro z; cases z)
  have hk : k ≠ m := ne_of M.hk M.ob (by intro z; cases z)
  refine ⟨upd_same, M.pr.keep (as := [m]) ((Kept.refl _ H).put (by simp)) (fun b hb => ?_), by rw [upd_ne hc]; exact M.hc, by rw [upd_ne hk]; exact M.hk, M.ck⟩
  have e : b = m := by simpa using hb
  rw [e]
  exact ⟨_, M.ob, rfl⟩
theorem McAt.setC (M : McAt K H m dm pa rs prog c k S) (cells : List Int) : McAt K (upd H c (.lst (cells.map V.int))) m dm pa rs prog c k { S with cells := cells } := by
  have hc : m ≠ c := ne_of M.ob M.hc (by intro z; cases z)
  refine ⟨by rw [upd_ne hc]; exact M.ob, M.pr.keep (as := [c]) ((Kept.refl _ H).put (by simp)) (fun b hb => ?_), upd_same, by rw [upd_ne (Ne.symm M.ck)]; exact M.hk, M.ck⟩
  have e : b = c := by simpa using hb
  rw [e]
  exact ⟨_, M.hc, rfl⟩
theorem McAt.setK (M : McAt K H m dm pa rs prog c k S) (marks : List Bool) : McAt K (upd H k (.lst (marks.map V.bl))) m dm pa rs prog c k { S with marks := marks } := by
  have hc : m ≠ k := ne_of M.ob M.hk (by intro z; cases z)
  refine ⟨by rw [upd_ne hc]; exact M.ob, M.pr.keep (as := [k]) ((Kept.refl _ H).put (by simp)) (fun b hb => ?_), by rw [upd_ne M.ck]; exact M.hc, upd_same, M.ck⟩
  have e : b = k := by simpa using hb
  rw [e]
  exact ⟨_, M.hk, rfl⟩
theorem McAt.stay (M : McAt K H m dm pa rs prog c k S) {as : List Addr} (kp : Kept as H H') (h : ∀ b ∈ [m, c, k], b ∉ as) (hn : ∀ b ∈ as, ∃ u, H b = some u ∧ notTup u = true) : McAt K H' m dm pa rs prog c k S :=
  ⟨kp _ _ M.ob (h m (by simp)), M.pr.keep kp hn, kp _ _ M.hc (h c (by simp)), kp _ _ M.hk (h k (by simp)), M.ck⟩
def sp_Machine_finish (K : PySem.W.Frag) : Sp := fun vs H Q _ => ∃ (m dm pa c k t : Addr) (a : DA) (rs : List Addr) (prog : List Row) (S : MS) (ks : List Wk) (took : Bool) (g : GH) (r : Row), vs = [.ref m, .ref t, .ref a.d] ∧
  McAt K H m dm pa rs prog c k S ∧ DevAt K H a ks took g ∧ (∀ b ∈ [m, c, k], b ∉ a.foot) ∧ SqT K H t r.vs ∧ r.okW prog.length ∧ S.cells.length = 4 ∧ S.marks.length = 3 ∧ g.G.length < g.nb + 1000 ∧
  ∀ H' a', DLe a a' → McAt K H' m dm pa rs prog c k (eff prog.length S ks r).1 → DevAt K H' a' (eff prog.length S ks r).2 took (effG g r) → Stp [m, c, k] a.foot H a'.foot H' → Q .non H'
theorem set_bl {ms : List Bool} {j : Nat} {x : Bool} : (ms.map V.bl).set j (.bl x) = (ms.set j x).map V.bl := by rw [List.map_set]
theorem ok_Machine_finish (T : T w K mg) : FnR P w K mg base CX0 4 (He.ma K (He.ga K "Machine") "finish") (sp_Machine_finish K) := by
  have F_Device_start : FnR P w K mg base CX0 3 _ _ := ok_Device_start T
  have F_Machine_reckoned : FnR P w K mg base CX0 2 _ _ := ok_Machine_reckoned T
  obtain ⟨fd, F⟩ := T.f_Machine_finish
  refine F.r sc_Machine_finish (fun _ _ _ _ _ _ us hl => match us, hl with | [_, _, _], _ => rfl) (fun vs H Q E h => ?_) (fun cdv A outer s H vs Q E hr h => ?_)
  · obtain ⟨_, _, _, _, _, _, _, _, _, _, _, _, _, _, rfl, _⟩ := h
    rfl
  · obtain ⟨m, dm, pa, c, k, t, a, rs, prog, S, ks, took, g, r, rfl, M, D, A', ht, rok, c4, m3, hgl, q⟩ := h
    have am := A' m (by simp)
    have ac := A' c (by simp)
    have ak := A' k (by simp)
    refine ⟨_, (pss_cons (ps_fld (pv 0) pe_int rfl)
      (pss_cons (ps_fldaug (pv 0) pe_int in_add)
      (pss_one (ps_match (pv 1) (pm_cons sc_Machine_finish.nd (pp_seq rfl (pq_cons pp_str (pq_cons (pp_name (i := 3) rfl (Or.inl rfl)) pq_nil))) (pss_one (ps_fld (pv 0) (pv 3) rfl))
      (pm_cons sc_Machine_finish.nd (pp_seq rfl (pq_cons pp_str (pq_cons (pp_name (i := 4) rfl (Or.inl rfl)) (pq_cons (pp_name (i := 3) rfl (Or.inl rfl)) pq_nil)))) (pss_one (ps_if (pt_cmpR op_ne (pe_ix ix_list (pe_fld (pv 0) rfl) (pv 4) (fun _ _ => rfl)) pe_int (nomark _))
      (pss_one (ps_fld (pv 0) (pv 3) rfl))
      pss_nil))
      (pm_cons sc_Machine_finish.nd (pp_seq rfl (pq_cons pp_str pq_nil)) (pss_one (ps_fld (pv 0) (pe_callB call_len_seq rfl T.u_len PySem.boot_len (pa_cons (pe_fld (pv 0) rfl) pa_nil)) rfl))
      (pm_cons sc_Machine_finish.nd (pp_seq rfl (pq_cons pp_str (pq_cons (pp_name (i := 5) rfl (Or.inl rfl)) pq_nil))) (pss_one (ps_expr (pe_mthR (pv 2) T.cl_Device T.m_Device_start F_Device_start (hr.mono (by decide)) (pa_cons (pv 5) pa_nil))))
      (pm_cons sc_Machine_finish.nd (pp_seq rfl (pq_cons pp_str (pq_cons (pp_name (i := 6) rfl (Or.inl rfl)) pq_nil))) (pss_one (ps_asg pe_bl (pg_sub (pe_fld (pv 0) rfl) (pv 6) set_list)))
      (pm_cons sc_Machine_finish.nd (pp_seq rfl (pq_cons pp_str (pq_cons (pp_name (i := 6) rfl (Or.inl rfl)) pq_nil))) (pss_one (ps_asg pe_bl (pg_sub (pe_fld (pv 0) rfl) (pv 6) set_list)))
      (pm_cons sc_Machine_finish.nd (pp_seq rfl (pq_cons (pp_or (pf_cons pp_str (pf_cons pp_str (pf_cons pp_str (pf_cons pp_str pf_nil))))) (pq_cons (pp_name (i := 4) rfl (Or.inl rfl)) (pq_cons (pp_name (i := 7) rfl (Or.inl rfl)) pq_nil)))) (pss_one (ps_asg (pe_mthR (pv 0) T.cl_Machine T.m_Machine_reckoned F_Machine_reckoned (hr.mono (by decide)) (pa_cons (pe_ix ix_tup (pv 1) pe_int (fun _ _ => rfl)) (pa_cons (pe_ix ix_list (pe_fld (pv 0) rfl) (pv 4) (fun _ _ => rfl)) (pa_cons (pv 7) (pa_cons (pv 2) pa_nil))))) (pg_sub (pe_fld (pv 0) rfl) (pv 4) set_list)))
      pm_nil))))))))))), ?_⟩
    refine stf M.ob T.cl_Machine T.n_Machine_spent (mc_len _) (mc_put_spent _ _) ?_ -- self.spent = 0
    refine augf upd_same T.cl_Machine T.n_Machine_row (mc_row _) (mc_len _) (mc_put_row _ _) ?_ -- self.row += 1
    rw [upd_upd]
    have M1 : McAt K (upd H m (.ins (cMachine K) dm (mcF ⟨pa, c, k, S.row + 1, 0⟩))) m dm pa rs prog c k { S with row := S.row + 1, spent := 0 } := M.setM _ _
    have D1 : DevAt K (upd H m (.ins (cMachine K) dm (mcF ⟨pa, c, k, S.row + 1, 0⟩))) a ks took g := D.upd M.ob rfl am
    have k1 : Kept (m :: c :: k :: a.foot) H (upd H m (.ins (cMachine K) dm (mcF ⟨pa, c, k, S.row + 1, 0⟩))) := (Kept.refl _ H).put (by simp)
    have f1 : ∀ b, upd H m (.ins (cMachine K) dm (mcF ⟨pa, c, k, S.row + 1, 0⟩)) b = none → H b = none := fun b h => upd_none h
    have ht1 : SqT K (upd H m (.ins (cMachine K) dm (mcF ⟨pa, c, k, S.row + 1, 0⟩))) t r.vs := tup_keep ht (as := [m]) ((Kept.refl _ H).put (by simp)) (fun b hb => by
      have e : b = m := by simpa using hb
      rw [e]
      exact ⟨_, M.ob, rfl⟩)
    generalize upd H m (.ins (cMachine K) dm (mcF ⟨pa, c, k, S.row + 1, 0⟩)) = H1 at M1 D1 k1 ht1 f1
    have inC : c ∈ m :: c :: k :: a.foot := by simp
    have inK : k ∈ m :: c :: k :: a.foot := by simp
    have inM : m ∈ m :: c :: k :: a.foot := by simp
    have cell : ∀ (z : Str) (r0 x : Int) (σ : L2.St), σ[0]? = some (some (.ref m)) → σ[4]? = some (some (.int r0)) → rg 0 3 r0 →
        (∀ H' a', DLe a a' → McAt K H' m dm pa rs prog c k { S with row := S.row + 1, spent := 0, cells := S.cells.set r0.toNat (reck z (S.cells.getD r0.toNat 0) x S.cells ks) } → DevAt K H' a' ks took g → Stp [m, c, k] a.foot H a'.foot H' → Q .non H') →
        gSub (tFld K (tVar 0) "cells") (tVar 4) rSetL (.int (reck z (S.cells.getD r0.toNat 0) x S.cells ks)) σ H1 (fun _ H' => Q .non H') := by
      intro z r0 x σ h0 h4 hr0 q'
      refine ⟨_, h0, _, _, _, _, _, rfl, M1.ob, T.cl_Machine, T.n_Machine_cells, mc_cells _, ?_⟩
      refine ⟨_, h4, ?_⟩
      refine ⟨_, _, _, _, rfl, rfl, M1.hc, ix_ok hr0.1 (by rw [List.length_map]; show r0 < (S.cells.length : Int); rw [c4]; have := hr0.2; omega), ?_⟩
      rw [set_int]
      exact q' _ a (DLe.refl _) (M1.setC _) (D1.upd M1.hc rfl ac) (Stp.of (k1.put inC) (fun b h => f1 b (upd_none h)))
    cases r
    all_goals
      have ht2 := ht1
      refine ⟨_, rfl, ?_⟩
      repeat (first | refine tm_hit2 ht2 ?_ | refine tm_hit1 ht2 ?_ | refine tm_hit0 ht2 ?_ | refine tm_or2 (l := ["set", "add", "less", "done"]) ht2 (by decide +kernel) ?_ | refine tm_len ht2 (Nat.ne_of_beq_eq_false rfl) ?_ | refine tm_str ht2 rfl (by decide +kernel) ?_ | refine tm_or2n (l := ["set", "add", "less", "done"]) ht2 rfl (by decide +kernel) ?_)
    case go tt =>
      refine ⟨_, rfl, stf M1.ob T.cl_Machine T.n_Machine_row (mc_len _) (mc_put_row _ _) ?_⟩
      exact q _ a (DLe.refl _) (M1.setM _ _) (D1.upd M1.ob rfl am) (Stp.of (k1.put inM) (fun b h => f1 b (upd_none h)))
    case iff r0 tt =>
      refine ⟨_, rfl, _, _, _, _, _, rfl, M1.ob, T.cl_Machine, T.n_Machine_cells, mc_cells _, ?_⟩
      refine ⟨_, rfl, ?_⟩
      refine ⟨_, _, _, _, rfl, rfl, SqL.of M1.hc, at_int rok.1.1 (by show r0 < (S.cells.length : Int); rw [c4]; have := rok.1.2; omega), ?_⟩
      refine ⟨rfl, ?_⟩
      refine ⟨_, rfl, ?_⟩
      rw [dec_int']
      by_cases e : S.cells.getD r0.toNat 0 = 0
      · rw [decide_eq_true e]
        refine iteF ?_
        have e2 : (eff prog.length S ks (.iff r0 tt)).1 = { S with row := S.row + 1, spent := 0 } := by
          show ({ S with row := if S.cells.getD r0.toNat 0 = 0 then S.row + 1 else tt, spent := 0 } : MS) = _
          rw [if_pos e]
        exact q _ a (DLe.refl _) (by rw [e2]; exact M1) D1 (Stp.of k1 f1)
      · rw [decide_eq_false e]
        refine iteT ?_
        have e2 : (eff prog.length S ks (.iff r0 tt)).1 = { S with row := tt, spent := 0 } := by
          show ({ S with row := if S.cells.getD r0.toNat 0 = 0 then S.row + 1 else tt, spent := 0 } : MS) = _
          rw [if_neg e]
        refine ⟨_, rfl, stf M1.ob T.cl_Machine T.n_Machine_row (mc_len _) (mc_put_row _ _) ?_⟩
        exact q _ a (DLe.refl _) (by rw [e2]; exact M1.setM _ _) (D1.upd M1.ob rfl am) (Stp.of (k1.put inM) (fun b h => f1 b (upd_none h)))
    case fin =>
      refine ⟨_, rfl, _, _, _, _, _, rfl, M1.ob, T.cl_Machine, T.n_Machine_program, mc_program _, ?_⟩
      refine ⟨_, _, rfl, .inr M1.pr.tup, ?_⟩
      refine stf M1.ob T.cl_Machine T.n_Machine_row (mc_len _) (mc_put_row _ _) ?_
      have el : ((rs.map V.ref).length : Int) = (prog.length : Int) := by rw [List.length_map, M1.pr.len]
      refine q _ a (DLe.refl _) ?_ (D1.upd M1.ob rfl am) (Stp.of (k1.put inM) (fun b h => f1 b (upd_none h)))
      rw [el]
      exact M1.setM _ _
    case ask x =>
      refine ⟨_, rfl, ?_⟩
      refine ⟨_, _, _, rfl, D1.ob, dv_no_start _, ?_⟩
      refine ⟨_, rfl, ?_⟩
      refine ⟨a, ks, took, g, x, rfl, D1, rok.1, hgl, fun H2 a2 ad2 D2 s2 => ?_⟩
      exact q _ a2 ad2 (M1.stay s2.kp A' D1.inF) D2 ((Stp.of k1 f1).trans (s2.more [m, c, k]))
    case mark x =>
      refine ⟨_, rfl, _, _, _, _, _, rfl, M1.ob, T.cl_Machine, T.n_Machine_marks, mc_marks _, ?_⟩
      refine ⟨_, rfl, ?_⟩
      refine ⟨_, _, _, _, rfl, rfl, M1.hk, ix_ok rok.1 (by rw [List.length_map]; show x < (S.marks.length : Int); rw [m3]; have := rok.2; omega), ?_⟩
      rw [set_bl]
      exact q _ a (DLe.refl _) (M1.setK _) (D1.upd M1.hk rfl ak) (Stp.of (k1.put inK) (fun b h => f1 b (upd_none h)))
    case clear x =>
      refine ⟨_, rfl, _, _, _, _, _, rfl, M1.ob, T.cl_Machine, T.n_Machine_marks, mc_marks _, ?_⟩
      refine ⟨_, rfl, ?_⟩
      refine ⟨_, _, _, _, rfl, rfl, M1.hk, ix_ok rok.1 (by rw [List.length_map]; show x < (S.marks.length : Int); rw [m3]; have := rok.2; omega), ?_⟩
      rw [set_bl]
      exact q _ a (DLe.refl _) (M1.setK _) (D1.upd M1.hk rfl ak) (Stp.of (k1.put inK) (fun b h => f1 b (upd_none h)))
    case set r0 x =>
      refine ⟨_, rfl, _, _, _, rfl, M1.ob, mc_no_reckoned _, ?_⟩
      refine ⟨_, rfl, _, _, _, _, rfl, rfl, ht1, rfl, ?_⟩
      refine ⟨_, rfl, _, _, _, _, _, rfl, M1.ob, T.cl_Machine, T.n_Machine_cells, mc_cells _, ?_⟩
      refine ⟨_, rfl, ?_⟩
      refine ⟨_, _, _, _, rfl, rfl, SqL.of M1.hc, at_int rok.1.1 (by show r0 < (S.cells.length : Int); rw [c4]; have := rok.1.2; omega), ?_⟩
      refine ⟨_, rfl, _, rfl, ?_⟩
      refine ⟨m, dm, pa, c, k, a, _, _, S.cells, ks, took, g, _, _, x, rfl, M1.ob, M1.hc, D1, rok.2.1, .inl rfl, ?_⟩
      exact cell _ r0 x _ rfl rfl rok.1 q
    case add r0 x =>
      refine ⟨_, rfl, _, _, _, rfl, M1.ob, mc_no_reckoned _, ?_⟩
      refine ⟨_, rfl, _, _, _, _, rfl, rfl, ht1, rfl, ?_⟩
      refine ⟨_, rfl, _, _, _, _, _, rfl, M1.ob, T.cl_Machine, T.n_Machine_cells, mc_cells _, ?_⟩
      refine ⟨_, rfl, ?_⟩
      refine ⟨_, _, _, _, rfl, rfl, SqL.of M1.hc, at_int rok.1.1 (by show r0 < (S.cells.length : Int); rw [c4]; have := rok.1.2; omega), ?_⟩
      refine ⟨_, rfl, _, rfl, ?_⟩
      refine ⟨m, dm, pa, c, k, a, _, _, S.cells, ks, took, g, _, _, x, rfl, M1.ob, M1.hc, D1, rok.2.1, .inr (.inr (by rw [c4]; have := rok.2.2; omega)), ?_⟩
      exact cell _ r0 x _ rfl rfl rok.1 q
    case less r0 x =>
      refine ⟨_, rfl, _, _, _, rfl, M1.ob, mc_no_reckoned _, ?_⟩
      refine ⟨_, rfl, _, _, _, _, rfl, rfl, ht1, rfl, ?_⟩
      refine ⟨_, rfl, _, _, _, _, _, rfl, M1.ob, T.cl_Machine, T.n_Machine_cells, mc_cells _, ?_⟩
      refine ⟨_, rfl, ?_⟩
      refine ⟨_, _, _, _, rfl, rfl, SqL.of M1.hc, at_int rok.1.1 (by show r0 < (S.cells.length : Int); rw [c4]; have := rok.1.2; omega), ?_⟩
      refine ⟨_, rfl, _, rfl, ?_⟩
      refine ⟨m, dm, pa, c, k, a, _, _, S.cells, ks, took, g, _, _, x, rfl, M1.ob, M1.hc, D1, rok.2.1, .inr (.inr (by rw [c4]; have := rok.2.2; omega)), ?_⟩
      exact cell _ r0 x _ rfl rfl rok.1 q
    case done r0 x =>
      refine ⟨_, rfl, _, _, _, rfl, M1.ob, mc_no_reckoned _, ?_⟩
      refine ⟨_, rfl, _, _, _, _, rfl, rfl, ht1, rfl, ?_⟩
      refine ⟨_, rfl, _, _, _, _, _, rfl, M1.ob, T.cl_Machine, T.n_Machine_cells, mc_cells _, ?_⟩
      refine ⟨_, rfl, ?_⟩
      refine ⟨_, _, _, _, rfl, rfl, SqL.of M1.hc, at_int rok.1.1 (by show r0 < (S.cells.length : Int); rw [c4]; have := rok.1.2; omega), ?_⟩
      refine ⟨_, rfl, _, rfl, ?_⟩
      refine ⟨m, dm, pa, c, k, a, _, _, S.cells, ks, took, g, _, _, x, rfl, M1.ob, M1.hc, D1, rok.2.1, .inr (.inl rfl), ?_⟩
      exact cell _ r0 x _ rfl rfl rok.1 q
    all_goals exact q _ a (DLe.refl _) M1 D1 (Stp.of k1 f1)
end
end SB

set_option Elab.async false
set_option linter.all false
set_option maxRecDepth 100000
set_option maxHeartbeats 2000000
namespace SB
open PySem L2
inductive MT where
  | ends | waits | goes | word (z : Str) (a x : Int)
def tick (n : Nat) (S : MS) (ks : List Wk) (r : Row) : MS × List Wk := if S.spent = r.beats then eff n S ks r else (S, ks)
def mstep (prog : List Row) (S : MS) (ks : List Wk) (took : Bool) (ws : List Int) : MS × List Wk × List Int × MT := match prog[S.row.toNat]? with
  | none => (S, ks, ws, .ends)
  | some r => match r.word S.spent S.cells with
    | none => ((tick prog.length { S with spent := S.spent + 1 } ks r).1, (tick prog.length { S with spent := S.spent + 1 } ks r).2, ws, .goes)
    | some (z, p, cl) => if took = true then (S, ks, ws, .waits) else
      ((tick prog.length { S with cells := (useW z p cl S.cells ws).1, spent := S.spent + 1 } ks r).1, (tick prog.length { S with cells := (useW z p cl S.cells ws).1, spent := S.spent + 1 } ks r).2, (useW z p cl S.cells ws).2.1, .word z (useW z p cl S.cells ws).2.2.1 (useW z p cl S.cells ws).2.2.2)
def mstepG (prog : List Row) (S : MS) (took : Bool) (g : GH) : GH := match prog[S.row.toNat]? with
  | none => g
  | some r => match r.word S.spent S.cells with
    | none => if S.spent + 1 = r.beats then effG g r else g
    | some _ => if took = true then g else if S.spent + 1 = r.beats then effG g r else g
def ToldM (H H' : Hp) (v : V) : MT → Prop
  | .ends => v = .str "ends"
  | .waits => v = .str "waits"
  | .goes => v = .str "goes"
  | .word z a x => ∃ q, v = .ref q ∧ H q = none ∧ H' q = some (.tup [.str z, .int a, .int x])
theorem word_cl {r : Row} {n : Nat} {spent : Int} {cells : List Int} {z : Str} {p cl : Int} (ok : r.okW n) (s0 : 0 ≤ spent) (s1 : spent < r.beats) (h : r.word spent cells = some (z, p, cl)) : 0 ≤ cl ∧ cl < 4 := by
  cases r <;> simp [Row.word, Row.beats, Row.okW, rg] at h ok s1 <;> omega
section
variable {P : Program} {w : World} {K : PySem.W.Frag} {mg : Str → Option Value} {base : Heap}
variable {H H' : Hp} {m dm pa c k : Addr} {a a' : DA} {rs : List Addr} {prog : List Row} {S : MS} {ks : List Wk} {took : Bool} {g : GH}
def sp_Machine_step (K : PySem.W.Frag) : Sp := fun vs H Q _ => ∃ (m dm pa c k lw : Addr) (a : DA) (rs : List Addr) (prog : List Row) (S : MS) (ks : List Wk) (took : Bool) (g : GH) (ws : List Int), vs = [.ref m, .ref lw, .ref a.d] ∧
  McAt K H m dm pa rs prog c k S ∧ MOk prog S ∧ DevAt K H a ks took g ∧ (∀ b ∈ [m, c, k], b ∉ a.foot) ∧ H lw = some (.lst (ws.map V.int)) ∧ 0 < ws.length ∧ lw ≠ c ∧ lw ≠ k ∧ lw ∉ a.foot ∧ g.G.length < g.nb + 1000 ∧
  ∀ H' a' v, DLe a a' → McAt K H' m dm pa rs prog c k (mstep prog S ks took ws).1 → DevAt K H' a' (mstep prog S ks took ws).2.1 took (mstepG prog S took g) → H' lw = some (.lst ((mstep prog S ks took ws).2.2.1.map V.int)) → Stp [m, c, k, lw] a.foot H a'.foot H' →
    ToldM H H' v (mstep prog S ks took ws).2.2.2 → Q v H'
theorem Stp.tup {X F F' : List Addr} {H H' : Hp} (s : Stp X F H F' H') (hn : ∀ b ∈ X ++ F, ∃ u, H b = some u ∧ notTup u = true) : ∀ q us, H q = some (.tup us) → H' q = some (.tup us) := fun q us h => s.kp _ _ h fun z => by
  obtain ⟨u, hu, hu2⟩ := hn q z
  rw [h] at hu
  cases hu
  cases hu2
theorem ToldM.keep {H H1 H2 : Hp} {v : V} {y : MT} (t : ToldM H H1 v y) (h : ∀ q us, H1 q = some (.tup us) → H2 q = some (.tup us)) : ToldM H H2 v y := by
  cases y with
  | word z a x =>
    obtain ⟨q, e, h1, h2⟩ := t
    exact ⟨q, e, h1, h _ _ h2⟩
  | _ => exact t
theorem mck_inF (M : McAt K H m dm pa rs prog c k S) (D : DevAt K H a ks took g) : ∀ b ∈ m :: c :: k :: a.foot, ∃ u, H b = some u ∧ notTup u = true := fun b hb => by
  simp only [List.mem_cons] at hb
  rcases hb with rfl | rfl | rfl | hb
  · exact ⟨_, M.ob, rfl⟩
  · exact ⟨_, M.hc, rfl⟩
  · exact ⟨_, M.hk, rfl⟩
  · exact D.inF b hb
theorem ok_Machine_step (T : T w K mg) : FnR P w K mg base CX0 5 (He.ma K (He.ga K "Machine") "step") (sp_Machine_step K) := by
  have F_Machine_ended : FnR P w K mg base CX0 1 _ _ := ok_Machine_ended T
  have F_Machine_wanted : FnR P w K mg base CX0 2 _ _ := ok_Machine_wanted T
  have F_Machine_use_word : FnR P w K mg base CX0 1 _ _ := ok_Machine_use_word T
  have F_Machine_finish : FnR P w K mg base CX0 4 _ _ := ok_Machine_finish T
  have F_beats_of : FnR P w K mg base CX0 1 _ _ := ok_beats_of T
  obtain ⟨fd, F⟩ := T.f_Machine_step
  refine F.r sc_Machine_step (fun _ _ _ _ _ _ us hl => match us, hl with | [_, _, _], _ => rfl) (fun vs H Q E h => ?_) (fun cdv A outer s H vs Q E hr h => ?_)
  · obtain ⟨_, _, _, _, _, _, _, _, _, _, _, _, _, _, rfl, _⟩ := h
    rfl
  · obtain ⟨m, dm, pa, c, k, lw, a, rs, prog, S, ks, took, g, ws, rfl, M, O, D, A', hlw, hw0, lc, lk, ll, hgl, q⟩ := h
    have am := A' m (by simp)
    have ac := A' c (by simp)
    have ak := A' k (by simp)
    refine ⟨_, (pss_cons (ps_if (pt_val (pe_mth0R (pv 0) T.cl_Machine T.m_Machine_ended F_Machine_ended (hr.mono (by decide))))
      (pss_one (ps_ret pe_str))
      pss_nil)
      (pss_cons (ps_set (i := 3) sc_Machine_step.nd rfl (Or.inl rfl) (pe_mth0R (pv 0) T.cl_Machine T.m_Machine_wanted F_Machine_wanted (hr.mono (by decide))))
      (pss_cons (ps_if (PW.pt (pw_and (pt_cmp (pc_notN (pv 3))) (pw_and1 (pt_val (pe_fld (pv 2) rfl)))))
      (pss_one (ps_ret pe_str))
      pss_nil)
      (pss_cons (ps_set (i := 4) sc_Machine_step.nd rfl (Or.inl rfl) (pe_ifExp (pt_cmp (pc_isN (pv 3))) pe_str (pe_mthR (pv 0) T.cl_Machine T.m_Machine_use_word F_Machine_use_word (hr.mono (by decide)) (pa_cons (pv 3) (pa_cons (pv 1) pa_nil)))))
      (pss_cons (ps_fldaug (pv 0) pe_int in_add)
      (pss_cons (ps_set (i := 5) sc_Machine_step.nd rfl (Or.inl rfl) (pe_ix ix_tup (pe_fld (pv 0) rfl) (pe_fld (pv 0) rfl) (fun _ _ => rfl)))
      (pss_cons (ps_if (pt_cmpR op_eq (pe_fld (pv 0) rfl) (pe_callR F_beats_of (hr.mono (by decide)) rfl T.g_beats_of T.k_beats_of (pa_cons (pv 5) pa_nil)) (nomark _))
      (pss_one (ps_expr (pe_mthR (pv 0) T.cl_Machine T.m_Machine_finish F_Machine_finish (hr.mono (by decide)) (pa_cons (pv 5) (pa_cons (pv 2) pa_nil)))))
      pss_nil)
      (pss_one (ps_ret (pv 4)))))))))), ?_⟩
    refine ⟨_, rfl, ?_⟩ -- self
    refine ⟨_, _, _, rfl, M.ob, mc_no_ended _, ?_⟩
    refine ⟨m, dm, pa, c, k, rs, prog, S, rfl, M, ?_⟩ -- self.ended()
    refine ⟨_, rfl, ?_⟩ -- test
    have r0 := O.row0
    have rn := O.rown
    unfold mstep mstepG at q
    refine ite2 (fun c1 => ?_) (fun c1 => ?_) -- if self.ended()
    · have c2 : S.row = prog.length := of_decide_eq_true c1
      have e1 : prog[S.row.toNat]? = none := List.getElem?_eq_none (by omega)
      rw [e1] at q
      exact q H a _ (DLe.refl _) M D hlw (Stp.refl _ _ _) rfl
    · have c2 : ¬ S.row = prog.length := fun z => c1 (decide_eq_true z)
      obtain ⟨r, e1⟩ : ∃ r, prog[S.row.toNat]? = some r := ⟨_, List.getElem?_eq_getElem (by omega)⟩
      have rok := O.rows r (List.mem_of_getElem? e1)
      simp only [e1] at q
      refine ⟨_, rfl, ?_⟩ -- self
      refine ⟨_, _, _, rfl, M.ob, mc_no_wanted _, ?_⟩
      refine ⟨m, dm, pa, c, k, rs, prog, S, rfl, M, O, fun H1 wv s1 hwv => ?_⟩ -- self.wanted()
      have ew : wantedOf prog S = r.word S.spent S.cells := by
        unfold wantedOf
        rw [e1]
      rw [ew] at hwv
      have M1 := M.same s1
      have D1 := D.same s1
      have hlw1 := s1 _ _ hlw
      /- what follows the told word -/
      have rest : ∀ (H2 : Hp) (S2 : MS) (ws2 : List Int) (tv : V) (v3 : Option V) (tt : MT), McAt K H2 m dm pa rs prog c k S2 → S2.row = S.row → S2.spent = S.spent → S2.cells.length = 4 → S2.marks.length = 3 → DevAt K H2 a ks took g → H2 lw = some (.lst (ws2.map V.int)) →
          Stp [m, c, k, lw] a.foot H a.foot H2 → ToldM H H2 tv tt →
          (∀ H' a' v, DLe a a' → McAt K H' m dm pa rs prog c k (tick prog.length { S2 with spent := S.spent + 1 } ks r).1 → DevAt K H' a' (tick prog.length { S2 with spent := S.spent + 1 } ks r).2 took (if S.spent + 1 = r.beats then effG g r else g) → H' lw = some (.lst (ws2.map V.int)) → Stp [m, c, k, lw] a.foot H a'.foot H' → ToldM H H' v tt → Q v H') →
          tSeq (sFldAug K (tVar 0) (tC (.int 1)) rAdd "spent") (tSeq (tAsg (tOp (rIxT K) (tFld K (tVar 0) "program") (tFld K (tVar 0) "row")) (gName 5)) (tSeq (tIfS (tTest (tOp rEq (tFld K (tVar 0) "spent") (tCallR (sp_beats_of K) (tCons (tVar 5) tNil))))
            (tDrop (tMethR (He.ga K "Machine") "finish" (sp_Machine_finish K) E0 (tVar 0) (tCons (tVar 5) (tCons (tVar 2) tNil)))) tNext) (tRet (tVar 4)))) { nx := fun _ H' => Q .non H', rt := Q } [some (.ref m), some (.ref lw), some (.ref a.d), v3, some tv, none] H2 := by
        intro H2 S2 ws2 tv v3 tt M2 er es c4 m3 D2 hl2 k2 htv q2
        refine augf M2.ob T.cl_Machine T.n_Machine_spent (mc_spent _) (mc_len _) (mc_put_spent _ _) ?_ -- self.spent += 1
        have M3 : McAt K (upd H2 m (.ins (cMachine K) dm (mcF ⟨pa, c, k, S2.row, S2.spent + 1⟩))) m dm pa rs prog c k { S2 with row := S2.row, spent := S2.spent + 1 } := M2.setM _ _
        have D3 : DevAt K (upd H2 m (.ins (cMachine K) dm (mcF ⟨pa, c, k, S2.row, S2.spent + 1⟩))) a ks took g := D2.upd M2.ob rfl am
        have k3 : Stp [m, c, k, lw] a.foot H a.foot (upd H2 m (.ins (cMachine K) dm (mcF ⟨pa, c, k, S2.row, S2.spent + 1⟩))) := k2.trans (Stp.of ((Kept.refl _ _).put (by simp)) (fun b h => upd_none h))
        have hl3 : upd H2 m (.ins (cMachine K) dm (mcF ⟨pa, c, k, S2.row, S2.spent + 1⟩)) lw = some (.lst (ws2.map V.int)) := by rw [upd_ne (ne_of hl2 M2.ob (by intro z; cases z))]; exact hl2
        have t3 : ToldM H (upd H2 m (.ins (cMachine K) dm (mcF ⟨pa, c, k, S2.row, S2.spent + 1⟩))) tv tt := htv.keep (fun q us h => by rw [upd_ne (ne_of h M2.ob (by intro z; cases z))]; exact h)
        show (tSeq _ _) _ _ (upd H2 m (.ins (cMachine K) dm (mcF ⟨pa, c, k, S2.row, S2.spent + 1⟩)))
        generalize upd H2 m (.ins (cMachine K) dm (mcF ⟨pa, c, k, S2.row, S2.spent + 1⟩)) = H3 at M3 D3 k3 hl3 t3
        obtain ⟨t, e2, e3⟩ := M3.pr.get e1
        refine ⟨_, rfl, _, _, _, _, _, rfl, M3.ob, T.cl_Machine, T.n_Machine_program, mc_program _, ?_⟩
        refine ⟨_, rfl, _, _, _, _, _, rfl, M3.ob, T.cl_Machine, T.n_Machine_row, mc_row _, ?_⟩
        refine ⟨_, _, _, _, rfl, rfl, M3.pr.tup, at_rf (by rw [er]; exact r0) (by rw [er]; exact e2), ?_⟩ -- self.program[self.row]
        refine ⟨_, rfl, _, _, _, _, _, rfl, M3.ob, T.cl_Machine, T.n_Machine_spent, mc_spent _, ?_⟩
        refine ⟨_, rfl, ?_⟩ -- row
        refine ⟨t, r, rfl, e3, fun H4 s4 => ?_⟩ -- beats_of(row)
        refine ⟨rfl, ?_⟩
        refine ⟨_, rfl, ?_⟩
        rw [dec_int']
        have M4 := M3.same s4
        have D4 := D3.same s4
        have hl4 := s4 _ _ hl3
        have k4 : Stp [m, c, k, lw] a.foot H a.foot H4 := k3.trans (Stp.same s4)
        have t4 : ToldM H H4 tv tt := t3.keep (fun q us h => s4 _ _ h)
        unfold tick at q2
        by_cases g1 : S2.spent + 1 = r.beats
        · rw [decide_eq_true g1]
          have g2 : ({ S2 with spent := S.spent + 1 } : MS).spent = r.beats := by show S.spent + 1 = _; rw [← es]; exact g1
          have g3 : S.spent + 1 = r.beats := g2
          rw [if_pos g2, if_pos g3] at q2
          refine iteT ?_
          refine ⟨_, rfl, ?_⟩ -- self
          refine ⟨_, _, _, rfl, M4.ob, mc_no_finish _, ?_⟩
          refine ⟨_, rfl, ?_⟩ -- row
          refine ⟨_, rfl, ?_⟩ -- device
          refine ⟨m, dm, pa, c, k, t, a, rs, prog, _, ks, took, g, r, rfl, M4, D4, A', Same.tup s4 e3, rok, c4, m3, hgl, fun H5 a5 ad5 M5 D5 k5 => ?_⟩ -- self.finish(row, device)
          refine ⟨_, rfl, ?_⟩ -- told
          have eS : ({ S2 with row := S2.row, spent := S2.spent + 1 } : MS) = { S2 with spent := S.spent + 1 } := by rw [es]
          rw [eS] at M5 D5
          refine q2 _ a5 _ ad5 M5 D5 ?_ (k4.trans (k5.mono (fun x hx => by simp only [List.mem_cons] at hx ⊢; rcases hx with h | h | h | h; exact .inl h; exact .inr (.inl h); exact .inr (.inr (.inl h)); cases h))) (t4.keep (k5.tup (mck_inF M4 D4)))
          refine k5.kp _ _ hl4 fun z => ?_
          have z' : lw ∈ m :: c :: k :: a.foot := z
          simp only [List.mem_cons] at z'
          rcases z' with h | h | h | h
          · exact (ne_of hl4 M4.ob (by intro z; cases z)) h
          · exact lc h
          · exact lk h
          · exact ll h
        · rw [decide_eq_false g1]
          have g2 : ¬ ({ S2 with spent := S.spent + 1 } : MS).spent = r.beats := by show ¬ S.spent + 1 = _; rw [← es]; exact g1
          have g3 : ¬ S.spent + 1 = r.beats := g2
          rw [if_neg g2, if_neg g3] at q2
          refine iteF ?_
          refine ⟨_, rfl, ?_⟩ -- told
          have eS : ({ S2 with row := S2.row, spent := S2.spent + 1 } : MS) = { S2 with spent := S.spent + 1 } := by rw [es]
          rw [eS] at M4
          exact q2 _ a _ (DLe.refl _) M4 D4 hl4 k4 t4
      refine ⟨_, rfl, ?_⟩ -- wanted
      cases hwd : r.word S.spent S.cells with
      | none =>
        rw [hwd] at q hwv
        have ev : wv = .non := hwv
        subst ev
        refine ⟨_, rfl, ?_⟩ -- test
        refine iteF (iteF ?_)
        refine ⟨_, rfl, ?_⟩ -- wanted
        refine ⟨_, rfl, ?_⟩ -- test
        refine iteT ?_
        exact rest H1 S ws _ _ .goes M1 rfl rfl O.c4 O.m3 D1 hlw1 (Stp.same s1) rfl q
      | some zz =>
        obtain ⟨z, p, cl⟩ := zz
        rw [hwd] at q hwv
        obtain ⟨wq, rfl, hwq, hwq1⟩ := hwv
        refine ⟨_, rfl, ?_⟩ -- test
        refine iteT ?_
        refine ⟨_, rfl, _, _, _, _, _, rfl, D1.ob, T.cl_Device, T.n_Device_took, dv_took _, ?_⟩
        refine ⟨_, rfl, ?_⟩ -- test
        cases took with
        | true =>
          refine iteT ?_
          exact q _ a _ (DLe.refl _) M1 D1 hlw1 (Stp.same s1) rfl
        | false =>
          refine iteF ?_
          obtain ⟨l0, l1⟩ := word_cl rok O.sp0 (O.sp1 r e1) hwd
          refine ⟨_, rfl, ?_⟩ -- wanted
          refine ⟨_, rfl, ?_⟩ -- test
          refine iteF ?_
          refine ⟨_, rfl, ?_⟩ -- self
          refine ⟨_, _, _, rfl, M1.ob, mc_no_use_word _, ?_⟩
          refine ⟨_, rfl, ?_⟩ -- wanted
          refine ⟨_, rfl, ?_⟩ -- words
          refine ⟨m, dm, pa, c, k, wq, lw, S.row, S.spent, S.cells, ws, z, p, cl, rfl, M1.ob, M1.hc, hlw1, .inl (.inl hwq1), Ne.symm lc, hw0, l0, by rw [O.c4]; exact l1, fun H2 y hy hy2 hc2 hl2 k2 => ?_⟩
          have k2' : Kept (m :: c :: k :: lw :: a.foot) H1 H2 := k2.mono (by
            intro z hz
            simp only [List.mem_cons] at hz ⊢
            rcases hz with h | h | h
            · exact .inr (.inl h)
            · exact .inr (.inr (.inr (.inl h)))
            · cases h)
          have mc : m ≠ c := ne_of M1.ob M1.hc (by intro z; cases z)
          have ml : m ≠ lw := ne_of M1.ob hlw1 (by intro z; cases z)
          have M2 : McAt K H2 m dm pa rs prog c k { S with cells := (useW z p cl S.cells ws).1 } :=
            ⟨k2 _ _ M1.ob (by simp [mc, ml]), M1.pr.keep k2 (fun b hb => by
              have e : b = c ∨ b = lw := by simpa using hb
              rcases e with rfl | rfl
              · exact ⟨_, M1.hc, rfl⟩
              · exact ⟨_, hlw1, rfl⟩), hc2, k2 _ _ M1.hk (by simp [Ne.symm M1.ck, Ne.symm lk]), M1.ck⟩
          have nt2 : ∀ b ∈ [c, lw], ∃ u, H1 b = some u ∧ notTup u = true := fun b hb => by
            have e : b = c ∨ b = lw := by simpa using hb
            rcases e with rfl | rfl
            · exact ⟨_, M1.hc, rfl⟩
            · exact ⟨_, hlw1, rfl⟩
          have D2 : DevAt K H2 a ks false g := D1.stay k2 (fun b hb z => by
            have e : b = c ∨ b = lw := by simpa using z
            rcases e with rfl | rfl
            · exact ac hb
            · exact ll hb) nt2
          have f2 : ∀ b, H2 b = none → H1 b = none := k2.fr (fun b hb => by
            have e : b = c ∨ b = lw := by simpa using hb
            rcases e with rfl | rfl
            · rw [hc2]; simp
            · rw [hl2]; simp)
          have uc4 : (useW z p cl S.cells ws).1.length = 4 := by
            unfold useW
            split
            · rw [List.length_set]; exact O.c4
            · exact O.c4
          exact rest H2 _ _ _ _ (.word z (useW z p cl S.cells ws).2.2.1 (useW z p cl S.cells ws).2.2.2) M2 rfl rfl uc4 O.m3 D2 hl2 ((Stp.same s1).trans (Stp.of k2' f2)) ⟨y, rfl, Same.free s1 hy, hy2⟩ q
def S0 : MS := ⟨[0, 0, 0, 0], [false, false, false], 0, 0⟩
def sp_Machine_init (K : PySem.W.Frag) : Sp := fun vs H Q _ => ∃ (m dm pa : Addr) (rs : List Addr) (prog : List Row), vs = [.ref m, .ref pa] ∧ H m = some (.ins (cMachine K) dm []) ∧ ProgAt K H pa rs prog ∧
  ∀ H' c k, McAt K H' m dm pa rs prog c k S0 → H c = none → H k = none → Kept [m] H H' → Q .non H'
theorem ok_Machine_init (T : T w K mg) : FnR P w K mg base CX0 1 (He.ma K (He.ga K "Machine") "__init__") (sp_Machine_init K) := by
  obtain ⟨t1, g_CELLS⟩ := T.i_CELLS
  obtain ⟨t2, g_MARKS⟩ := T.i_MARKS
  obtain ⟨fd, F⟩ := T.f_Machine_init
  refine F.r sc_Machine_init (fun _ _ _ _ _ _ us hl => match us, hl with | [_, _], _ => rfl) (fun vs H Q E h => ?_) (fun cdv A outer s H vs Q E hr h => ?_)
  · obtain ⟨_, _, _, _, _, rfl, _⟩ := h
    rfl
  · obtain ⟨m, dm, pa, rs, prog, rfl, hself, Pr, q⟩ := h
    refine ⟨_, (pss_cons (ps_fld (pv 0) (pv 1) rfl)
      (pss_cons (ps_fld (pv 0) (pe_op op_rep (pe_lst (pa_cons pe_int pa_nil)) (pe_glob (v := .int 4) rfl g_CELLS ⟨_, rfl⟩)) rfl)
      (pss_cons (ps_fld (pv 0) (pe_op op_rep (pe_lst (pa_cons pe_bl pa_nil)) (pe_glob (v := .int 3) rfl g_MARKS ⟨_, rfl⟩)) rfl)
      (pss_cons (ps_fld (pv 0) pe_int rfl)
      (pss_one (ps_fld (pv 0) pe_int rfl)))))), ?_⟩
    refine ⟨_, rfl, ?_⟩ -- program
    refine stf hself T.cl_Machine T.n_Machine_program (by decide) rfl ?_ -- self.program = program
    generalize e1 : upd H m (.ins (cMachine K) dm (putF "program" (V.ref pa) [])) = H1
    have h1 : H1 m = some (.ins (cMachine K) dm (putF "program" (V.ref pa) [])) := by rw [← e1]; exact upd_same
    have f1 : ∀ p, H1 p = none → H p = none := fun p hp => by
      have pm : p ≠ m := fun z => by rw [z, h1] at hp; cases hp
      rw [← e1, upd_ne pm] at hp
      exact hp
    have k1 : Kept [m] H H1 := by rw [← e1]; exact (Kept.refl _ H).put (by simp)
    refine ⟨by show 1 ≤ sizeLine; decide, fun p hp => ?_⟩ -- [0]
    refine ⟨p, 4, [.int 0], rfl, rfl, upd_same, by decide, by decide, by show 4 ≤ sizeLine; decide, fun c hc => ?_⟩ -- [0] * CELLS
    have cp : c ≠ p := fun z => by rw [z, upd_same] at hc; cases hc
    rw [upd_ne cp] at hc
    have mp : m ≠ p := ne_of_none h1 hp
    have mc : m ≠ c := ne_of_none h1 hc
    refine stf (by rw [upd_ne mc, upd_ne mp]; exact h1) T.cl_Machine T.n_Machine_cells (lt1000 (by kernel_rfl)) rfl ?_ -- self.cells = [0] * CELLS
    generalize e2 : upd (upd (upd H1 p (.lst [.int 0])) c _) m _ = H2
    have h2 : H2 m = some (.ins (cMachine K) dm (putF "cells" (V.ref c) (putF "program" (V.ref pa) []))) := by rw [← e2]; exact upd_same
    have hc2 : H2 c = some (.lst (S0.cells.map V.int)) := by rw [← e2, upd_ne (Ne.symm mc)]; exact upd_same
    have f2 : ∀ x, H2 x = none → H1 x = none := fun x hx => by
      have xm : x ≠ m := fun z => by rw [z, h2] at hx; cases hx
      have xc : x ≠ c := fun z => by rw [z, hc2] at hx; cases hx
      rw [← e2, upd_ne xm, upd_ne xc] at hx
      by_cases xp : x = p
      · rw [xp]; exact hp
      · rw [upd_ne xp] at hx; exact hx
    have k2 : Kept [m] H H2 := by rw [← e2]; exact ((k1.new (f1 p hp)).new (f1 c hc)).put (by simp)
    refine ⟨by show 1 ≤ sizeLine; decide, fun p2 hp2 => ?_⟩ -- [False]
    refine ⟨p2, 3, [.bl false], rfl, rfl, upd_same, by decide, by decide, by show 3 ≤ sizeLine; decide, fun k hk => ?_⟩ -- [False] * MARKS
    have kp : k ≠ p2 := fun z => by rw [z, upd_same] at hk; cases hk
    rw [upd_ne kp] at hk
    have mp2 : m ≠ p2 := ne_of_none h2 hp2
    have mk : m ≠ k := ne_of_none h2 hk
    have cp2 : c ≠ p2 := ne_of_none hc2 hp2
    have ck : c ≠ k := ne_of_none hc2 hk
    refine stf (by rw [upd_ne mk, upd_ne mp2]; exact h2) T.cl_Machine T.n_Machine_marks (lt1000 (by kernel_rfl)) rfl ?_ -- self.marks = [False] * MARKS
    refine stf upd_same T.cl_Machine T.n_Machine_row (lt1000 (by kernel_rfl)) rfl ?_ -- self.row = 0
    refine stf upd_same T.cl_Machine T.n_Machine_spent (lt1000 (by kernel_rfl)) (mc_made pa c k 0 0) ?_ -- self.spent = 0
    rw [upd_upd, upd_upd]
    have kf : Kept [m] H (upd (upd (upd H2 p2 (.lst [.bl false])) k (.lst (List.replicate (3 : Int).toNat [V.bl false]).flatten)) m (.ins (cMachine K) dm (mcF ⟨pa, c, k, 0, 0⟩))) := ((k2.new (f1 _ (f2 _ hp2))).new (f1 _ (f2 _ hk))).put (by simp)
    refine q _ c k ⟨upd_same, Pr.keep kf (fun b hb => ?_), ?_, ?_, ck⟩ (f1 c hc) (f1 _ (f2 _ hk)) kf
    · have e : b = m := by simpa using hb
      rw [e]
      exact ⟨_, hself, rfl⟩
    · rw [upd_ne (Ne.symm mc), upd_ne ck, upd_ne cp2]
      exact hc2
    · rw [upd_ne (Ne.symm mk), upd_same]
      rfl
end
end SB

set_option Elab.async false
set_option linter.all false
set_option maxRecDepth 100000
set_option maxHeartbeats 2000000
namespace SB
open PySem L2
def numB (v : V) (lo hi : Int) : Bool := match v with
  | .int i => decide (lo ≤ i) && decide (i ≤ hi)
  | _ => false
theorem sIx1 (n : Nat) : HT.sIx (n + 1) 0 (some 1) = 1 := by
  have := HT.sIx_nat (n + 1) 0 1
  rw [show ((1 : Nat) : Int) = 1 from rfl] at this
  rw [this]
  omega
theorem cut1 (x : V) (xs : List V) : cutV (x :: xs) (some 1) none = xs := by
  unfold cutV
  rw [List.length_cons, sIx1, HT.sIx_none]
  show xs.take (xs.length + 1 - 1) = xs
  rw [Nat.add_sub_cancel, List.take_length]
theorem at0 {α : Type} (x : α) (xs : List α) : atI (x :: xs) 0 = some x := by
  unfold atI ixN
  rw [if_pos (Int.le_refl 0), if_pos (by rw [List.length_cons]; omega)]
  rfl
section
variable {P : Program} {w : World} {K : PySem.W.Frag} {mg : Str → Option Value} {base : Heap}
def sp_is_number (K : PySem.W.Frag) : Sp := fun vs H Q _ => ∃ (v : V) (lo hi : Int) (n : String), vs = [v, .int lo, .int hi] ∧ TyN K H v n ∧ Q (.bl (numB v lo hi)) H
theorem ok_is_number (T : T w K mg) : FnR P w K mg base CX0 1 (He.ga K "is_number") (sp_is_number K) := by
  obtain ⟨fd, F⟩ := T.f_is_number
  refine F.r sc_is_number (fun _ _ _ _ _ _ us hl => match us, hl with | [_, _, _], _ => rfl) (fun vs H Q E h => ?_) (fun cdv A outer s H vs Q E hr h => ?_)
  · obtain ⟨v, lo, hi, n, rfl, _⟩ := h
    rfl
  · obtain ⟨v, lo, hi, n, rfl, hv, k⟩ := h
    refine ⟨_, (pss_one (ps_ret (pe_and (pe_isi (n := "int") rfl T.u_isinstance rfl T.u_int (pv 0)) (pe_and (pe_not (pe_isi (n := "bool") rfl T.u_isinstance rfl T.u_bool (pv 0))) (pe_one (pe_chain op_le op_le (pv 1) (pv 0) (pv 2))))))), ?_⟩
    refine ⟨_, rfl, rfl, _, hv, _, rfl, ?_⟩
    cases hv with
    | int i =>
      refine iteT ⟨_, rfl, rfl, _, .int i, _, rfl, _, rfl, iteT ⟨_, rfl, _, rfl, _, _, rfl, rfl, _, rfl, ?_⟩⟩
      refine ite2 (fun c1 => ?_) (fun c1 => ?_)
      · refine ⟨_, rfl, _, _, rfl, rfl, ?_⟩
        have e : numB (.int i) lo hi = decide (i ≤ hi) := by
          show (decide (lo ≤ i) && decide (i ≤ hi)) = _
          rw [c1, Bool.true_and]
        rw [e] at k
        exact k
      · have e : numB (.int i) lo hi = false := by
          show (decide (lo ≤ i) && decide (i ≤ hi)) = _
          cases z : decide (lo ≤ i) with
          | true => exact absurd z c1
          | false => rfl
        rw [e] at k
        exact k
    | bl b => exact iteT ⟨_, rfl, rfl, _, .bl b, _, rfl, _, rfl, iteF k⟩
    | str x => exact iteF k
    | non => exact iteF k
    | tup h => exact iteF k
    | lst h => exact iteF k
def sp_is_part (K : PySem.W.Frag) : Sp := fun vs H Q _ => ∃ (v : V) (kd : Str) (lo hi : Int) (n : String), vs = [v, .str kd] ∧ Ent K "BOUNDS" kd [.int lo, .int hi] ∧ TyN K H v n ∧ Q (.bl (numB v lo hi)) H
theorem ok_is_part (T : T w K mg) : FnR P w K mg base CX0 2 (He.ga K "is_part") (sp_is_part K) := by
  have F_is_number : FnR P w K mg base CX0 1 _ _ := ok_is_number T
  obtain ⟨es, en, DB⟩ := T.d_BOUNDS
  obtain ⟨fd, F⟩ := T.f_is_part
  refine F.r sc_is_part (fun _ _ _ _ _ _ us hl => match us, hl with | [_, _], _ => rfl) (fun vs H Q E h => ?_) (fun cdv A outer s H vs Q E hr h => ?_)
  · obtain ⟨_, _, _, _, _, rfl, _⟩ := h
    rfl
  · obtain ⟨v, kd, lo, hi, n, rfl, ⟨p, e1, e2⟩, hv, q⟩ := h
    refine ⟨_, (pss_cons (ps_asg (pe_ix ix_kdict (pe_glob (v := .ref (He.ga K "BOUNDS")) rfl T.g_BOUNDS rfl) (pv 1) (fun _ _ => rfl)) (pg_tup rfl (pgs_cons (pg_name (i := 2) sc_is_part.nd rfl (Or.inl rfl)) (pgs_cons (pg_name (i := 3) sc_is_part.nd rfl (Or.inl rfl)) pgs_nil))))
      (pss_one (ps_ret (pe_callR F_is_number (hr.mono (by decide)) rfl T.g_is_number T.k_is_number (pa_cons (pv 0) (pa_cons (pv 2) (pa_cons (pv 3) pa_nil))))))), ?_⟩
    refine ⟨_, rfl, ?_⟩ -- kind
    refine ⟨_, kd, .ref p, rfl, rfl, ⟨es, en, _, DB.at_, DB.lit, e1, rfl⟩, ?_⟩ -- BOUNDS[kind]
    refine ⟨p, _, rfl, e2 _, rfl, _, _, rfl, _, _, rfl, rfl, ?_⟩ -- low, high = BOUNDS[kind]
    refine ⟨_, rfl, _, rfl, _, rfl, ?_⟩
    exact ⟨v, lo, hi, n, rfl, hv, q⟩
def sp_is_one_of (K : PySem.W.Frag) : Sp := fun vs H Q _ => ∃ (v : V) (m : Int) (n : String), vs = [v, .int m] ∧ TyN K H v n ∧ Q (.bl (numB v 0 (m - 1))) H
theorem ok_is_one_of (T : T w K mg) : FnR P w K mg base CX0 2 (He.ga K "is_one_of") (sp_is_one_of K) := by
  have F_is_number : FnR P w K mg base CX0 1 _ _ := ok_is_number T
  obtain ⟨fd, F⟩ := T.f_is_one_of
  refine F.r sc_is_one_of (fun _ _ _ _ _ _ us hl => match us, hl with | [_, _], _ => rfl) (fun vs H Q E h => ?_) (fun cdv A outer s H vs Q E hr h => ?_)
  · obtain ⟨_, _, _, rfl, _⟩ := h
    rfl
  · obtain ⟨v, m, n, rfl, hv, q⟩ := h
    refine ⟨_, (pss_one (ps_ret (pe_callR F_is_number (hr.mono (by decide)) rfl T.g_is_number T.k_is_number (pa_cons (pv 0) (pa_cons pe_int (pa_cons (pe_op op_sub (pv 1) pe_int) pa_nil)))))), ?_⟩
    refine ⟨_, rfl, ?_⟩ -- value
    refine ⟨_, rfl, ?_⟩ -- many
    refine ⟨_, _, rfl, rfl, ?_⟩ -- many - 1
    exact ⟨v, 0, m - 1, n, rfl, hv, q⟩
def Row.nm : Row → Str
  | .set _ _ => "set" | .add _ _ => "add" | .less _ _ => "less" | .get _ _ => "get" | .put _ _ => "put" | .getx _ _ => "getx" | .putx _ _ => "putx" | .pair _ _ => "pair" | .lay _ _ => "lay" | .go _ => "go" | .iff _ _ => "if" | .ask _ => "ask" | .done _ _ => "done" | .mark _ => "mark" | .clear _ => "clear" | .rest _ => "rest" | .fin => "end"
def Row.parts : Row → List (Int × Str)
  | .set r n => [(r, "cell"), (n, "word")] | .add r s => [(r, "cell"), (s, "cell")] | .less r s => [(r, "cell"), (s, "cell")] | .get r a => [(r, "cell"), (a, "address")] | .put a r => [(a, "address"), (r, "cell")] | .getx r s => [(r, "cell"), (s, "cell")] | .putx s r => [(s, "cell"), (r, "cell")]
  | .pair r a => [(r, "first"), (a, "address")] | .lay a r => [(a, "address"), (r, "first")] | .go t => [(t, "row")] | .iff r t => [(r, "cell"), (t, "row")] | .ask w => [(w, "work")] | .done r w => [(r, "cell"), (w, "work")] | .mark m => [(m, "mark")] | .clear m => [(m, "mark")] | .rest n => [(n, "rest")] | .fin => []
theorem Row.vs_eq (r : Row) : r.vs = .str r.nm :: r.parts.map fun p => V.int p.1 := by cases r <;> rfl
theorem Row.form (T : T w K mg) (r : Row) : Ent K "FORMS" r.nm (r.parts.map fun p => V.str p.2) := by
  cases r
  case set => exact T.e_FORMS_set
  case add => exact T.e_FORMS_add
  case less => exact T.e_FORMS_less
  case get => exact T.e_FORMS_get
  case put => exact T.e_FORMS_put
  case getx => exact T.e_FORMS_getx
  case putx => exact T.e_FORMS_putx
  case pair => exact T.e_FORMS_pair
  case lay => exact T.e_FORMS_lay
  case go => exact T.e_FORMS_go
  case iff => exact T.e_FORMS_if
  case ask => exact T.e_FORMS_ask
  case done => exact T.e_FORMS_done
  case mark => exact T.e_FORMS_mark
  case clear => exact T.e_FORMS_clear
  case rest => exact T.e_FORMS_rest
  case fin => exact T.e_FORMS_end
def PartOk (K : PySem.W.Frag) (n : Nat) (p : Int × Str) : Prop := if p.2 = "row" then numB (.int p.1) 0 ((n : Int) - 1) = true else ∃ lo hi, Ent K "BOUNDS" p.2 [.int lo, .int hi] ∧ numB (.int p.1) lo hi = true
theorem num_ok {i lo hi : Int} (h : rg lo hi i) : numB (.int i) lo hi = true := by
  show (decide (lo ≤ i) && decide (i ≤ hi)) = true
  rw [decide_eq_true h.1, decide_eq_true h.2]
  rfl
theorem part_of {n : Nat} {i lo hi : Int} {kd : Str} (hk : ¬ kd = "row") (e : Ent K "BOUNDS" kd [.int lo, .int hi]) (h : rg lo hi i) : PartOk K n (i, kd) := by
  unfold PartOk
  rw [if_neg hk]
  exact ⟨lo, hi, e, num_ok h⟩
theorem part_row {n : Nat} {i : Int} (h : 0 ≤ i ∧ i < n) : PartOk K n (i, "row") := by
  unfold PartOk
  rw [if_pos rfl]
  exact num_ok ⟨h.1, by omega⟩
theorem Row.partsOk (T : T w K mg) {n : Nat} {r : Row} (h : r.ok n) : ∀ p ∈ r.parts, PartOk K n p := by
  have cell : ∀ {i}, rg 0 3 i → PartOk K n (i, "cell") := fun h => part_of (by decide +kernel) T.e_BOUNDS_cell h
  have word : ∀ {i}, rg 0 999 i → PartOk K n (i, "word") := fun h => part_of (by decide +kernel) T.e_BOUNDS_word h
  have addr : ∀ {i}, rg 0 31 i → PartOk K n (i, "address") := fun h => part_of (by decide +kernel) T.e_BOUNDS_address h
  have frst : ∀ {i}, rg 0 2 i → PartOk K n (i, "first") := fun h => part_of (by decide +kernel) T.e_BOUNDS_first h
  have work : ∀ {i}, rg 0 5 i → PartOk K n (i, "work") := fun h => part_of (by decide +kernel) T.e_BOUNDS_work h
  have mark : ∀ {i}, rg 0 2 i → PartOk K n (i, "mark") := fun h => part_of (by decide +kernel) T.e_BOUNDS_mark h
  have rest : ∀ {i}, rg 1 9 i → PartOk K n (i, "rest") := fun h => part_of (by decide +kernel) T.e_BOUNDS_rest h
  intro p hp
  cases r <;> simp only [Row.parts, List.mem_cons, List.not_mem_nil, or_false] at hp
  case set => rcases hp with rfl | rfl; exact cell h.1; exact word h.2
  case add => rcases hp with rfl | rfl; exact cell h.1; exact cell h.2
  case less => rcases hp with rfl | rfl; exact cell h.1; exact cell h.2
  case get => rcases hp with rfl | rfl; exact cell h.1; exact addr h.2
  case put => rcases hp with rfl | rfl; exact addr h.1; exact cell h.2
  case getx => rcases hp with rfl | rfl; exact cell h.1; exact cell h.2
  case putx => rcases hp with rfl | rfl; exact cell h.1; exact cell h.2
  case pair => rcases hp with rfl | rfl; exact frst h.1; exact addr h.2
  case lay => rcases hp with rfl | rfl; exact addr h.1; exact frst h.2
  case go => subst hp; exact part_row h
  case iff => rcases hp with rfl | rfl; exact cell h.1; exact part_row h.2
  case ask => subst hp; exact work h
  case done => rcases hp with rfl | rfl; exact cell h.1; exact work h.2
  case mark => subst hp; exact mark h
  case clear => subst hp; exact mark h
  case rest => subst hp; exact rest h
def sp_is_row (K : PySem.W.Frag) : Sp := fun vs H Q _ => ∃ (t : Addr) (n : Nat) (r : Row), vs = [.ref t, .int (n : Int)] ∧ SqT K H t r.vs ∧ r.ok n ∧ ∀ H', Same H H' → Q (.bl true) H'
theorem ok_is_row (T : T w K mg) : FnR P w K mg base CX0 3 (He.ga K "is_row") (sp_is_row K) := by
  have F_is_part : FnR P w K mg base CX0 2 _ _ := ok_is_part T
  have F_is_one_of : FnR P w K mg base CX0 2 _ _ := ok_is_one_of T
  obtain ⟨es, en, DF⟩ := T.d_FORMS
  obtain ⟨fd, F⟩ := T.f_is_row
  refine F.r sc_is_row (fun _ _ _ _ _ _ us hl => match us, hl with | [_, _], _ => rfl) (fun vs H Q E h => ?_) (fun cdv A outer s H vs Q E hr h => ?_)
  · obtain ⟨_, _, _, rfl, _⟩ := h
    rfl
  · obtain ⟨t, n, r, rfl, ht, ok, q⟩ := h
    obtain ⟨fp, e1, e2⟩ := Row.form T r
    have po := Row.partsOk T ok
    rw [Row.vs_eq] at ht
    generalize r.nm = nm at ht e1
    generalize r.parts = ps at ht e2 po
    refine ⟨_, (pss_cons (ps_if (PW.pt (pw_or (pt_not (pt_val (pe_isi (n := "tuple") rfl T.u_isinstance rfl T.u_tuple (pv 0)))) (pw_or (pt_not (pt_truth (pv 0) (fun _ => rfl))) (pw_or (pt_not (pt_val (pe_isi (n := "str") rfl T.u_isinstance rfl T.u_str (pe_ix ix_tup (pv 0) pe_int (fun _ _ => rfl))))) (pw_or1 (pt_cmpR (op_notIn_kd DF) (pe_ix ix_tup (pv 0) pe_int (fun _ _ => rfl)) (pe_glob (v := .ref (He.ga K "FORMS")) rfl T.g_FORMS rfl) rfl))))))
      (pss_one (ps_ret pe_bl))
      pss_nil)
      (pss_cons (ps_set (i := 2) sc_is_row.nd rfl (Or.inl rfl) (pe_ix ix_kdict (pe_glob (v := .ref (He.ga K "FORMS")) rfl T.g_FORMS rfl) (pe_ix ix_tup (pv 0) pe_int (fun _ _ => rfl)) (fun _ _ => rfl)))
      (pss_cons (ps_if (pt_cmpR op_ne (pe_callB call_len_seq rfl T.u_len PySem.boot_len (pa_cons (pv 0) pa_nil)) (pe_op op_add (pe_callB call_len_seq rfl T.u_len PySem.boot_len (pa_cons (pv 2) pa_nil)) pe_int) (nomark _))
      (pss_one (ps_ret pe_bl))
      pss_nil)
      (pss_cons (ps_for PassesOwn.never rfl (RZ.pi_zipA rfl T.u_zip (pa_cons (pe_slice sl_tup (pv 0) (po_some pe_int) po_none) (pa_cons (pv 2) pa_nil))) (pg_tup rfl (pgs_cons (pg_name (i := 3) sc_is_row.nd rfl (Or.inl rfl)) (pgs_cons (pg_name (i := 4) sc_is_row.nd rfl (Or.inl rfl)) pgs_nil)))
      (pss_cons (ps_set (i := 5) sc_is_row.nd rfl (Or.inl rfl) (pe_ifExp (pt_cmpR op_eq (pv 4) pe_str (nomark _)) (pe_callR F_is_one_of (hr.mono (by decide)) rfl T.g_is_one_of T.k_is_one_of (pa_cons (pv 3) (pa_cons (pv 1) pa_nil))) (pe_callR F_is_part (hr.mono (by decide)) rfl T.g_is_part T.k_is_part (pa_cons (pv 3) (pa_cons (pv 4) pa_nil)))))
      (pss_one (ps_if (pt_not (pt_val (pv 5)))
      (pss_one (ps_ret pe_bl))
      pss_nil))))
      (pss_one (ps_ret pe_bl)))))), ?_⟩
    refine ⟨_, rfl, rfl, _, .tup ht, _, rfl, iteF ?_⟩ -- isinstance(row, tuple)
    refine ⟨_, rfl, true, ?_, iteF ?_⟩ -- not row
    · exact .inr (.inl ⟨_, ht, rfl⟩)
    refine ⟨_, rfl, _, _, _, _, rfl, rfl, ht, at0 _ _, rfl, _, .str _, _, rfl, iteF ?_⟩ -- isinstance(row[0], str)
    refine ⟨_, rfl, _, _, _, _, rfl, rfl, ht, at0 _ _, nm, _, rfl, rfl, e1, _, rfl, iteF ?_⟩ -- row[0] not in FORMS
    refine ⟨_, rfl, _, _, _, _, rfl, rfl, ht, at0 _ _, _, nm, .ref fp, rfl, rfl, ⟨es, en, _, DF.at_, DF.lit, e1, rfl⟩, ?_⟩ -- form = FORMS[row[0]]
    refine ⟨_, rfl, _, _, rfl, .inr ht, ?_⟩ -- len
    refine ⟨_, rfl, _, _, rfl, .inr (e2 _), _, _, rfl, rfl, ?_⟩ -- len(form) + 1
    refine ⟨rfl, _, rfl, ?_⟩
    have el : ((V.str nm :: ps.map fun p => V.int p.1).length : Int) = ((ps.map fun p => V.str p.2).length : Int) + 1 := by simp
    rw [dec_int', el, decide_eq_true rfl]
    refine iteF ?_
    have n1 : 1 ≤ (V.str nm :: ps.map fun p => V.int p.1).length := by simp
    refine ⟨_, rfl, _, rfl, _, _, rfl, ht, ?_, fun sp hsp => ?_⟩ -- slice row[1:]
    · rw [List.length_cons, sIx1]
      exact fun z => absurd z.1 (by decide)
    rw [cut1]
    refine ⟨_, rfl, ?_⟩ -- form
    have s1 : Same H (upd H sp (.tup (ps.map fun p => V.int p.1))) := Same.new (Same.refl H) hsp
    refine ⟨sp, fp, (ps.map fun p : Int × Str => V.int p.1), (ps.map fun p : Int × Str => V.str p.2), rfl, .inr ⟨.inl (.inl upd_same), e2 _, RZ.for_zipT (by simp) (fun i σ H2 => ∃ v3 v4 v5, σ = [some (.ref t), some (.int (n : Int)), some (.ref fp), v3, v4, v5] ∧ Same H H2 ∧ H2 sp = some (.tup (ps.map fun p => V.int p.1)))
      ⟨none, none, none, rfl, s1, upd_same⟩ (fun i σ H2 ⟨_, _, _, _, _, h⟩ => ⟨.inl (.inl h), e2 _⟩) ?_ ?_⟩⟩
    · rintro i x y tt σ H2 hx hy ⟨v3, v4, v5, rfl, s2, h2⟩ htt
      rw [List.getElem?_map] at hx hy
      cases hp : ps[i]? with
      | none => rw [hp] at hx; cases hx
      | some p =>
        rw [hp] at hx hy
        cases hx
        cases hy
        have hpo := po p (List.mem_of_getElem? hp)
        have s3 : Same H (upd H2 tt (.tup [.int p.1, .str p.2])) := s2.trans (Same.new (Same.refl H2) htt)
        have h3 : upd H2 tt (.tup [.int p.1, .str p.2]) sp = some (.tup (ps.map fun p => V.int p.1)) := by rw [upd_ne (ne_of_none h2 htt)]; exact h2
        refine ⟨tt, _, rfl, .inl (.inl upd_same), rfl, _, _, rfl, _, _, rfl, rfl, ?_⟩
        refine ⟨_, rfl, rfl, _, rfl, ?_⟩
        rw [dec_str]
        unfold PartOk at hpo
        by_cases g : p.2 = "row"
        · rw [decide_eq_true g]
          rw [if_pos g] at hpo
          refine iteT ?_
          refine ⟨_, rfl, _, rfl, _, _, "int", rfl, .int _, ?_⟩
          rw [hpo]
          refine ⟨_, rfl, _, rfl, iteF ?_⟩
          exact ⟨_, _, _, rfl, s3, h3⟩
        · rw [decide_eq_false g]
          rw [if_neg g] at hpo
          obtain ⟨lo, hi, en', hn⟩ := hpo
          refine iteF ?_
          refine ⟨_, rfl, _, rfl, _, _, lo, hi, "int", rfl, en', .int _, ?_⟩
          rw [hn]
          refine ⟨_, rfl, _, rfl, iteF ?_⟩
          exact ⟨_, _, _, rfl, s3, h3⟩
    · rintro σ H2 ⟨v3, v4, v5, rfl, s2, h2⟩
      exact q _ s2
structure WOk (n : Nat) (k : Wk) : Prop where
  b : rg 0 31 k.begin
  g : rg 0 31 k.goal
  m : rg 1 16 k.many
  c : rg 1 4 k.block
  gr : k.greed = "all" ∨ k.greed = "turn" ∨ k.greed = "idle"
  mar : ∀ i, k.mark = some i → rg 0 2 i
  fo : ∀ i, k.follow = some i → 0 ≤ i ∧ i < n
def sp_is_work (K : PySem.W.Frag) : Sp := fun vs H Q _ => ∃ (t : Addr) (n : Nat) (k : Wk), vs = [.ref t, .int (n : Int)] ∧ SqT K H t k.vs ∧ WOk n k ∧ Q (.bl true) H
theorem ok_is_work (T : T w K mg) : FnR P w K mg base CX0 3 (He.ga K "is_work") (sp_is_work K) := by
  have F_is_part : FnR P w K mg base CX0 2 _ _ := ok_is_part T
  have F_is_one_of : FnR P w K mg base CX0 2 _ _ := ok_is_one_of T
  obtain ⟨fd, F⟩ := T.f_is_work
  refine F.r sc_is_work (fun _ _ _ _ _ _ us hl => match us, hl with | [_, _], _ => rfl) (fun vs H Q E h => ?_) (fun cdv A outer s H vs Q E hr h => ?_)
  · obtain ⟨_, _, _, rfl, _⟩ := h
    rfl
  · obtain ⟨t, n, k, rfl, ht, ok, q⟩ := h
    refine ⟨_, (pss_cons (ps_if (PW.pt (pw_or (pt_not (pt_val (pe_isi (n := "tuple") rfl T.u_isinstance rfl T.u_tuple (pv 0)))) (pw_or1 (pt_cmpR op_ne (pe_callB call_len_seq rfl T.u_len PySem.boot_len (pa_cons (pv 0) pa_nil)) pe_int (nomark _)))))
      (pss_one (ps_ret pe_bl))
      pss_nil)
      (pss_cons (ps_asg (pv 0) (pg_tup rfl (pgs_cons (pg_name (i := 2) sc_is_work.nd rfl (Or.inl rfl)) (pgs_cons (pg_name (i := 3) sc_is_work.nd rfl (Or.inl rfl)) (pgs_cons (pg_name (i := 4) sc_is_work.nd rfl (Or.inl rfl)) (pgs_cons (pg_name (i := 5) sc_is_work.nd rfl (Or.inl rfl)) (pgs_cons (pg_name (i := 6) sc_is_work.nd rfl (Or.inl rfl)) (pgs_cons (pg_name (i := 7) sc_is_work.nd rfl (Or.inl rfl)) (pgs_cons (pg_name (i := 8) sc_is_work.nd rfl (Or.inl rfl)) pgs_nil)))))))))
      (pss_cons (ps_set (i := 9) sc_is_work.nd rfl (Or.inl rfl) (pe_and (pe_callR F_is_part (hr.mono (by decide)) rfl T.g_is_part T.k_is_part (pa_cons (pv 2) (pa_cons pe_str pa_nil))) (pe_and (pe_callR F_is_part (hr.mono (by decide)) rfl T.g_is_part T.k_is_part (pa_cons (pv 3) (pa_cons pe_str pa_nil))) (pe_one (pe_callR F_is_part (hr.mono (by decide)) rfl T.g_is_part T.k_is_part (pa_cons (pv 4) (pa_cons pe_str pa_nil)))))))
      (pss_cons (ps_set (i := 10) sc_is_work.nd rfl (Or.inl rfl) (pe_and (pe_callR F_is_part (hr.mono (by decide)) rfl T.g_is_part T.k_is_part (pa_cons (pv 5) (pa_cons pe_str pa_nil))) (pe_one (pe_or (pe_cmp (pc_isN (pv 7))) (pe_one (pe_callR F_is_part (hr.mono (by decide)) rfl T.g_is_part T.k_is_part (pa_cons (pv 7) (pa_cons pe_str pa_nil))))))))
      (pss_one (ps_ret (pe_and (pv 9) (pe_and (pv 10) (pe_and (pe_cmpR op_in_seq (pv 6) (pe_glob (v := .ref (He.ga K "GREEDS")) rfl T.g_GREEDS rfl) rfl) (pe_one (pe_or (pe_cmp (pc_isN (pv 8))) (pe_one (pe_callR F_is_one_of (hr.mono (by decide)) rfl T.g_is_one_of T.k_is_one_of (pa_cons (pv 8) (pa_cons (pv 1) pa_nil))))))))))))))), ?_⟩
    refine ⟨_, rfl, rfl, _, .tup ht, _, rfl, iteF ?_⟩ -- isinstance(work, tuple)
    refine ⟨_, rfl, _, _, rfl, .inr ht, rfl, _, rfl, iteF ?_⟩ -- len(work) != 7
    refine ⟨_, rfl, _, _, rfl, ht, rfl, _, _, rfl, _, _, rfl, _, _, rfl, _, _, rfl, _, _, rfl, _, _, rfl, _, _, rfl, rfl, ?_⟩ -- begin, goal, many, block, greed, mark, follow = work
    refine ⟨_, rfl, _, _, 0, 31, "int", rfl, T.e_BOUNDS_address, .int _, ?_⟩
    rw [num_ok ok.b]
    refine ⟨_, rfl, iteT ?_⟩
    refine ⟨_, rfl, _, _, 0, 31, "int", rfl, T.e_BOUNDS_address, .int _, ?_⟩
    rw [num_ok ok.g]
    refine ⟨_, rfl, iteT ?_⟩
    refine ⟨_, rfl, _, _, 1, 16, "int", rfl, T.e_BOUNDS_many, .int _, ?_⟩
    rw [num_ok ok.m]
    refine ⟨_, rfl, _, _, 1, 4, "int", rfl, T.e_BOUNDS_block, .int _, ?_⟩
    rw [num_ok ok.c]
    refine ⟨_, rfl, iteT ?_⟩
    refine ⟨_, rfl, _, rfl, ?_⟩ -- mark is None
    have fin : ∀ (σ : L2.St), σ[9]? = some (some (.bl true)) → σ[10]? = some (some (.bl true)) → σ[6]? = some (some (.str k.greed)) → σ[8]? = some (some (oV k.follow)) → σ[1]? = some (some (.int (n : Int))) →
        tAndV (tVar 9) (tAndV (tVar 10) (tAndV (tOp (rIn K false) (tVar 6) (tC (.ref (He.ga K "GREEDS")))) (tOrV (tIsN (tVar 8)) (tCallR (sp_is_one_of K) (tCons (tVar 8) (tCons (tVar 1) tNil)))))) σ H Q := by
      intro σ h9 h10 h6 h8 h1
      refine ⟨_, h9, _, rfl, iteT ?_⟩
      refine ⟨_, h10, _, rfl, iteT ?_⟩
      refine ⟨_, h6, _, _, rfl, .inr (T.tt_GREEDS _), rfl, rfl, ?_⟩
      have eg : (if false = true then !inV (V.str k.greed) [.str "all", .str "turn", .str "idle"] else inV (V.str k.greed) [.str "all", .str "turn", .str "idle"]) = true := by
        rcases ok.gr with e | e | e <;> rw [e] <;> decide +kernel
      rw [eg]
      refine ⟨_, rfl, iteT ?_⟩
      refine ⟨_, h8, _, rfl, ?_⟩
      cases ef : k.follow with
      | none => exact iteT q
      | some f =>
        refine iteF ?_
        refine ⟨_, h8, _, h1, _, _, "int", rfl, by rw [ef]; exact .int f, ?_⟩
        rw [ef]
        have := ok.fo f ef
        show Q (.bl (numB (.int f) 0 ((n : Int) - 1))) H
        rw [num_ok ⟨this.1, by omega⟩]
        exact q
    cases em : k.mark with
    | none =>
      refine iteT ?_
      exact fin _ rfl rfl rfl rfl rfl
    | some i =>
      refine iteF ?_
      refine ⟨_, rfl, _, _, 0, 2, "int", rfl, T.e_BOUNDS_mark, .int i, ?_⟩
      have e2 : numB (oV (some i)) 0 2 = true := num_ok (ok.mar i em)
      rw [e2]
      exact fin _ rfl rfl rfl rfl rfl
end
end SB

set_option Elab.async false
set_option linter.all false
set_option maxRecDepth 100000
set_option maxHeartbeats 2000000
namespace SB
open PySem L2
theorem walk_enumT {K : PySem.W.Frag} {a : Addr} {xs : List V} : Walk (IteT K a) xs.length (fun H => SqT K H a xs) (YPair (fun i => some (.int (i : Nat))) (fun i => xs[i]?)) := by
  refine ⟨fun i _ hi q => ⟨xs, xs[i], q, by simp [hi]⟩, fun _ q => ⟨xs, q, Nat.le_refl _⟩, fun i H v H' _ q y => ?_⟩
  obtain ⟨T, x, h1, h2, h3, h4⟩ := y
  exact ⟨T, .int (i : Nat), x, h1, h2, h3, rfl, h4 xs q⟩
section
variable {P : Program} {w : World} {K : PySem.W.Frag} {mg : Str → Option Value} {base : Heap}
def sp_is_ask (K : PySem.W.Frag) : Sp := fun vs H Q _ => ∃ (t : Addr) (n : Nat) (b x e : Int), vs = [.ref t, .int (n : Int), .int e] ∧ SqT K H t [.int b, .int x] ∧ rg 0 200 b ∧ e ≤ b ∧ 0 ≤ x ∧ x < n ∧ Q (.bl true) H
theorem ok_is_ask (T : T w K mg) : FnR P w K mg base CX0 3 (He.ga K "is_ask") (sp_is_ask K) := by
  have F_is_part : FnR P w K mg base CX0 2 _ _ := ok_is_part T
  have F_is_one_of : FnR P w K mg base CX0 2 _ _ := ok_is_one_of T
  obtain ⟨fd, F⟩ := T.f_is_ask
  refine F.r sc_is_ask (fun _ _ _ _ _ _ us hl => match us, hl with | [_, _, _], _ => rfl) (fun vs H Q E h => ?_) (fun cdv A outer s H vs Q E hr h => ?_)
  · obtain ⟨_, _, _, _, _, rfl, _⟩ := h
    rfl
  · obtain ⟨t, n, b, x, e, rfl, ht, hb, he, h0, h1, q⟩ := h
    refine ⟨_, (pss_cons (ps_if (PW.pt (pw_or (pt_not (pt_val (pe_isi (n := "tuple") rfl T.u_isinstance rfl T.u_tuple (pv 0)))) (pw_or1 (pt_cmpR op_ne (pe_callB call_len_seq rfl T.u_len PySem.boot_len (pa_cons (pv 0) pa_nil)) pe_int (nomark _)))))
      (pss_one (ps_ret pe_bl))
      pss_nil)
      (pss_cons (ps_asg (pv 0) (pg_tup rfl (pgs_cons (pg_name (i := 3) sc_is_ask.nd rfl (Or.inl rfl)) (pgs_cons (pg_name (i := 4) sc_is_ask.nd rfl (Or.inl rfl)) pgs_nil))))
      (pss_one (ps_ret (pe_and (pe_callR F_is_part (hr.mono (by decide)) rfl T.g_is_part T.k_is_part (pa_cons (pv 3) (pa_cons pe_str pa_nil))) (pe_and (pe_cmpR op_ge (pv 3) (pv 2) (nomark _)) (pe_one (pe_callR F_is_one_of (hr.mono (by decide)) rfl T.g_is_one_of T.k_is_one_of (pa_cons (pv 4) (pa_cons (pv 1) pa_nil)))))))))), ?_⟩
    refine ⟨_, rfl, rfl, _, .tup ht, _, rfl, iteF ?_⟩ -- isinstance(ask, tuple)
    refine ⟨_, rfl, _, _, rfl, .inr ht, rfl, _, rfl, iteF ?_⟩ -- len(ask) != 2
    refine ⟨_, rfl, _, _, rfl, ht, rfl, _, _, rfl, _, _, rfl, rfl, ?_⟩ -- when, work = ask
    refine ⟨_, rfl, _, _, 0, 200, "int", rfl, T.e_BOUNDS_ask, .int _, ?_⟩
    rw [num_ok hb]
    refine ⟨_, rfl, iteT ?_⟩
    refine ⟨_, rfl, _, rfl, _, _, rfl, rfl, ?_⟩ -- when >= earliest
    refine ⟨decide (e ≤ b), rfl, ?_⟩
    rw [decide_eq_true he]
    refine iteT ?_
    refine ⟨_, rfl, _, rfl, _, _, "int", rfl, .int _, ?_⟩
    rw [num_ok (show rg 0 ((n : Int) - 1) x from ⟨h0, by omega⟩)]
    exact q
def sp_check_program (K : PySem.W.Frag) : Sp := fun vs H Q _ => ∃ (pa : Addr) (rs : List Addr) (prog : List Row), vs = [.ref pa] ∧ ProgAt K H pa rs prog ∧ 0 < prog.length ∧ prog.length ≤ 40 ∧ (∀ r ∈ prog, r.ok prog.length) ∧ ∀ H', Same H H' → Q .non H'
theorem ok_check_program (T : T w K mg) : FnR P w K mg base CX0 4 (He.ga K "check_program") (sp_check_program K) := by
  have F_is_row : FnR P w K mg base CX0 3 _ _ := ok_is_row T
  obtain ⟨t1, g_MOST_ROWS⟩ := T.i_MOST_ROWS
  obtain ⟨fd, F⟩ := T.f_check_program
  refine F.r sc_check_program (fun _ _ _ _ _ _ us hl => match us, hl with | [_], _ => rfl) (fun vs H Q E h => ?_) (fun cdv A outer s H vs Q E hr h => ?_)
  · obtain ⟨_, _, _, rfl, _⟩ := h
    rfl
  · obtain ⟨pa, rs, prog, rfl, Pr, p0, p40, ok, q⟩ := h
    refine ⟨_, (pss_cons (ps_if (PW.pt (pw_or (pt_not (pt_val (pe_isi (n := "tuple") rfl T.u_isinstance rfl T.u_tuple (pv 0)))) (pw_or1 (pt_not (pt_truth (pv 0) (fun _ => rfl))))))
      (pss_one ps_never)
      pss_nil)
      (pss_one (ps_for PassesOwn.never rfl (pi_enumT rfl T.u_enumerate (pa_cons (pv 0) pa_nil)) (pg_tup rfl (pgs_cons (pg_name (i := 1) sc_check_program.nd rfl (Or.inl rfl)) (pgs_cons (pg_name (i := 2) sc_check_program.nd rfl (Or.inl rfl)) pgs_nil)))
      (pss_one (ps_if (PW.pt (pw_or (pt_cmpR op_eq (pv 1) (pe_glob (v := .int 40) rfl g_MOST_ROWS ⟨_, rfl⟩) (nomark _)) (pw_or1 (pt_not (pt_val (pe_callR F_is_row (hr.mono (by decide)) rfl T.g_is_row T.k_is_row (pa_cons (pv 2) (pa_cons (pe_callB call_len_seq rfl T.u_len PySem.boot_len (pa_cons (pv 0) pa_nil)) pa_nil))))))))
      (pss_one ps_never)
      pss_nil))))), ?_⟩
    have ne : (rs.map V.ref).isEmpty = false := by
      cases rs with
      | nil => have := Pr.len; simp at this; omega
      | cons a r => rfl
    refine ⟨_, rfl, rfl, _, .tup Pr.tup, _, rfl, iteF ?_⟩ -- isinstance(program, tuple)
    refine ⟨_, rfl, true, .inr (.inl ⟨_, Pr.tup, by rw [ne]; rfl⟩), iteF ?_⟩ -- not program
    refine ⟨_, rfl, pa, rs.map V.ref, rfl, Pr.tup, for_it walk_enumT (fun i σ H2 => ∃ v1 v2, σ = [some (.ref pa), v1, v2] ∧ Same H H2) ⟨none, none, rfl, Same.refl H⟩ (fun i σ H2 _ ⟨_, _, _, s2⟩ => Same.tup s2 Pr.tup) ?_ ?_⟩
    · rintro i x σ H2 H3 hi ⟨v1, v2, rfl, s2⟩ ⟨t, y, z, rfl, ht, rfl, e1, e2⟩
      cases e1
      rw [List.length_map] at hi
      have hi2 : i < prog.length := by rw [← Pr.len]; exact hi
      obtain ⟨r, hr'⟩ : ∃ r, prog[i]? = some r := ⟨_, List.getElem?_eq_getElem hi2⟩
      obtain ⟨a, e3, e4⟩ := Pr.get hr'
      have e2 : (rs.map V.ref)[i]? = some z := e2
      rw [List.getElem?_map, e3] at e2
      cases e2
      have s3 : Same H (upd H2 t (.tup [.int (i : Int), .ref a])) := s2.trans (Same.new (Same.refl H2) ht)
      refine ⟨t, _, rfl, .inl (.inl upd_same), rfl, _, _, rfl, _, _, rfl, rfl, ?_⟩
      refine ⟨_, rfl, rfl, _, rfl, ?_⟩
      rw [dec_int', decide_eq_false (by omega)]
      refine iteF ?_
      refine ⟨_, rfl, _, rfl, _, _, rfl, .inr (Same.tup s3 Pr.tup), ?_⟩
      rw [List.length_map, Pr.len]
      refine ⟨a, prog.length, r, rfl, Same.tup s3 e4, ok r (List.mem_of_getElem? hr'), fun H4 s4 => ?_⟩
      exact ⟨_, rfl, iteF ⟨_, _, rfl, s3.trans s4⟩⟩
    · rintro σ H2 ⟨v1, v2, rfl, s2⟩
      exact q _ s2
def sp_check_works (K : PySem.W.Frag) : Sp := fun vs H Q _ => ∃ (wl : Addr) (ts : List Addr) (ks : List Wk), vs = [.ref wl] ∧ WorksAt K H wl ts ks ∧ ks.length ≤ 6 ∧ (∀ k ∈ ks, WOk ks.length k) ∧ ∀ H', Same H H' → Q .non H'
theorem ok_check_works (T : T w K mg) : FnR P w K mg base CX0 4 (He.ga K "check_works") (sp_check_works K) := by
  have F_is_work : FnR P w K mg base CX0 3 _ _ := ok_is_work T
  obtain ⟨t1, g_MOST_WORKS⟩ := T.i_MOST_WORKS
  obtain ⟨fd, F⟩ := T.f_check_works
  refine F.r sc_check_works (fun _ _ _ _ _ _ us hl => match us, hl with | [_], _ => rfl) (fun vs H Q E h => ?_) (fun cdv A outer s H vs Q E hr h => ?_)
  · obtain ⟨_, _, _, rfl, _⟩ := h
    rfl
  · obtain ⟨wl, ts, ks, rfl, W, w6, ok, q⟩ := h
    refine ⟨_, (pss_cons (ps_if (pt_not (pt_val (pe_isi (n := "list") rfl T.u_isinstance rfl T.u_list (pv 0))))
      (pss_one ps_never)
      pss_nil)
      (pss_one (ps_for PassesOwn.never rfl (pi_enum rfl T.u_enumerate (pa_cons (pv 0) pa_nil)) (pg_tup rfl (pgs_cons (pg_name (i := 1) sc_check_works.nd rfl (Or.inl rfl)) (pgs_cons (pg_name (i := 2) sc_check_works.nd rfl (Or.inl rfl)) pgs_nil)))
      (pss_one (ps_if (PW.pt (pw_or (pt_cmpR op_eq (pv 1) (pe_glob (v := .int 6) rfl g_MOST_WORKS ⟨_, rfl⟩) (nomark _)) (pw_or1 (pt_not (pt_val (pe_callR F_is_work (hr.mono (by decide)) rfl T.g_is_work T.k_is_work (pa_cons (pv 2) (pa_cons (pe_callB call_len_seq rfl T.u_len PySem.boot_len (pa_cons (pv 0) pa_nil)) pa_nil))))))))
      (pss_one ps_never)
      pss_nil))))), ?_⟩
    refine ⟨_, rfl, rfl, _, .lst W.lst, _, rfl, iteF ?_⟩ -- isinstance(works, list)
    refine ⟨_, rfl, wl, ts.map V.ref, rfl, W.lst, for_it walk_enum (fun i σ H2 => ∃ v1 v2, σ = [some (.ref wl), v1, v2] ∧ Same H H2) ⟨none, none, rfl, Same.refl H⟩ (fun i σ H2 _ ⟨_, _, _, s2⟩ => s2.seq W.lst) ?_ ?_⟩
    · rintro i x σ H2 H3 hi ⟨v1, v2, rfl, s2⟩ ⟨t, y, z, rfl, ht, rfl, e1, e2⟩
      cases e1
      rw [List.length_map] at hi
      have hi2 : i < ks.length := by rw [← W.len]; exact hi
      obtain ⟨r, hr'⟩ : ∃ r, ks[i]? = some r := ⟨_, List.getElem?_eq_getElem hi2⟩
      obtain ⟨a, e3⟩ : ∃ a, ts[i]? = some a := ⟨_, List.getElem?_eq_getElem hi⟩
      have e4 := W.at_ i a r e3 hr'
      have e2 : (ts.map V.ref)[i]? = some z := e2
      rw [List.getElem?_map, e3] at e2
      cases e2
      have s3 : Same H (upd H2 t (.tup [.int (i : Int), .ref a])) := s2.trans (Same.new (Same.refl H2) ht)
      refine ⟨t, _, rfl, .inl (.inl upd_same), rfl, _, _, rfl, _, _, rfl, rfl, ?_⟩
      refine ⟨_, rfl, rfl, _, rfl, ?_⟩
      rw [dec_int', decide_eq_false (by omega)]
      refine iteF ?_
      refine ⟨_, rfl, _, rfl, _, _, rfl, .inl (s3.seq W.lst), ?_⟩
      rw [List.length_map, W.len]
      refine ⟨a, ks.length, r, rfl, Same.tup s3 e4, ok r (List.mem_of_getElem? hr'), ?_⟩
      exact ⟨_, rfl, iteF ⟨_, _, rfl, s3⟩⟩
    · rintro σ H2 ⟨v1, v2, rfl, s2⟩
      exact q _ s2
def sp_check_memory (K : PySem.W.Frag) : Sp := fun vs H Q _ => ∃ (l : Addr) (ws : List Int), vs = [.ref l] ∧ SqL K H l (ws.map V.int) ∧ 4 ≤ ws.length ∧ ws.length ≤ 32 ∧ (∀ x ∈ ws, rg 0 999 x) ∧ Q .non H
theorem ok_check_memory (T : T w K mg) : FnR P w K mg base CX0 3 (He.ga K "check_memory") (sp_check_memory K) := by
  have F_is_part : FnR P w K mg base CX0 2 _ _ := ok_is_part T
  obtain ⟨t1, g_FEWEST_WORDS⟩ := T.i_FEWEST_WORDS
  obtain ⟨t2, g_MOST_WORDS⟩ := T.i_MOST_WORDS
  obtain ⟨fd, F⟩ := T.f_check_memory
  refine F.r sc_check_memory (fun _ _ _ _ _ _ us hl => match us, hl with | [_], _ => rfl) (fun vs H Q E h => ?_) (fun cdv A outer s H vs Q E hr h => ?_)
  · obtain ⟨_, _, rfl, _⟩ := h
    rfl
  · obtain ⟨l, ws, rfl, hl, w4, w32, ok, q⟩ := h
    refine ⟨_, (pss_cons (ps_if (PW.pt (pw_or (pt_not (pt_val (pe_isi (n := "list") rfl T.u_isinstance rfl T.u_list (pv 0)))) (pw_or1 (pt_not (pt_chain op_le op_le (pe_glob (v := .int 4) rfl g_FEWEST_WORDS ⟨_, rfl⟩) (pe_callB call_len_seq rfl T.u_len PySem.boot_len (pa_cons (pv 0) pa_nil)) (pe_glob (v := .int 32) rfl g_MOST_WORDS ⟨_, rfl⟩))))))
      (pss_one ps_never)
      pss_nil)
      (pss_one (ps_for PassesOwn.never rfl (pi_list (pv 0)) (pg_name (i := 1) sc_check_memory.nd rfl (Or.inl rfl))
      (pss_one (ps_if (pt_not (pt_val (pe_callR F_is_part (hr.mono (by decide)) rfl T.g_is_part T.k_is_part (pa_cons (pv 1) (pa_cons pe_str pa_nil)))))
      (pss_one ps_never)
      pss_nil))))), ?_⟩
    refine ⟨_, rfl, rfl, _, .lst hl, _, rfl, iteF ?_⟩ -- isinstance(memory, list)
    refine ⟨_, rfl, _, _, rfl, .inl hl, _, _, rfl, rfl, ?_⟩
    rw [List.length_map]
    refine ⟨decide ((4 : Int) ≤ (ws.length : Int)), rfl, ?_⟩
    rw [decide_eq_true (show (4 : Int) ≤ (ws.length : Int) by omega)]
    refine iteT ?_
    refine ⟨_, _, rfl, rfl, decide ((ws.length : Int) ≤ (32 : Int)), rfl, ?_⟩
    rw [decide_eq_true (show (ws.length : Int) ≤ (32 : Int) by omega)]
    refine iteF ?_
    refine ⟨_, rfl, l, rfl, ⟨_, hl⟩, for_list (K := K) (a := l) (xs := ws.map V.int) (fun i σ H2 => ∃ v1, σ = [some (.ref l), v1] ∧ H2 = H) ⟨none, rfl, rfl⟩ (fun i σ H2 _ ⟨_, _, e⟩ => by rw [e]; exact hl) ?_ ?_⟩
    · rintro i x σ H2 hx ⟨v1, rfl, rfl⟩
      rw [List.getElem?_map] at hx
      cases hy : ws[i]? with
      | none => rw [hy] at hx; cases hx
      | some y =>
        rw [hy] at hx
        cases hx
        refine ⟨_, rfl, _, _, 0, 999, "int", rfl, T.e_BOUNDS_word, .int _, ?_⟩
        rw [num_ok (ok y (List.mem_of_getElem? hy))]
        exact ⟨_, rfl, iteF ⟨_, rfl, rfl⟩⟩
    · rintro σ H2 ⟨v1, rfl, rfl⟩
      exact q
structure AsksAt (K : PySem.W.Frag) (H : Hp) (al : Addr) (qs : List Addr) (as : List (Int × Int)) : Prop where
  lst : SqL K H al (qs.map V.ref)
  len : qs.length = as.length
  at_ : ∀ (j : Nat) (t : Addr) (a : Int × Int), qs[j]? = some t → as[j]? = some a → SqT K H t [.int a.1, .int a.2]
theorem AsksAt.same {H H' : Hp} {al : Addr} {qs : List Addr} {as : List (Int × Int)} (A : AsksAt K H al qs as) (s : Same H H') : AsksAt K H' al qs as := ⟨s.seq A.lst, A.len, fun j t k h1 h2 => Same.tup s (A.at_ j t k h1 h2)⟩
structure AOk (n : Nat) (as : List (Int × Int)) : Prop where
  len : as.length ≤ 8
  each : ∀ a ∈ as, rg 0 200 a.1 ∧ 0 ≤ a.2 ∧ a.2 < n
  srt : ∀ (i : Nat) a b, as[i]? = some a → as[i + 1]? = some b → a.1 ≤ b.1
def sp_check_asks (K : PySem.W.Frag) : Sp := fun vs H Q _ => ∃ (al wl : Addr) (qs ts : List Addr) (as : List (Int × Int)) (ks : List Wk), vs = [.ref al, .ref wl] ∧ AsksAt K H al qs as ∧ WorksAt K H wl ts ks ∧ AOk ks.length as ∧ ∀ H', Same H H' → Q .non H'
theorem ok_check_asks (T : T w K mg) : FnR P w K mg base CX0 4 (He.ga K "check_asks") (sp_check_asks K) := by
  have F_is_ask : FnR P w K mg base CX0 3 _ _ := ok_is_ask T
  obtain ⟨t1, g_MOST_ASKS⟩ := T.i_MOST_ASKS
  obtain ⟨fd, F⟩ := T.f_check_asks
  refine F.r sc_check_asks (fun _ _ _ _ _ _ us hl => match us, hl with | [_, _], _ => rfl) (fun vs H Q E h => ?_) (fun cdv A outer s H vs Q E hr h => ?_)
  · obtain ⟨_, _, _, _, _, _, rfl, _⟩ := h
    rfl
  · obtain ⟨al, wl, qs, ts, as, ks, rfl, A', W, ok, q⟩ := h
    refine ⟨_, (pss_cons (ps_if (pt_not (pt_val (pe_isi (n := "list") rfl T.u_isinstance rfl T.u_list (pv 0))))
      (pss_one ps_never)
      pss_nil)
      (pss_cons (ps_set (i := 2) sc_check_asks.nd rfl (Or.inl rfl) pe_int)
      (pss_one (ps_for PassesOwn.never rfl (pi_enum rfl T.u_enumerate (pa_cons (pv 0) pa_nil)) (pg_tup rfl (pgs_cons (pg_name (i := 3) sc_check_asks.nd rfl (Or.inl rfl)) (pgs_cons (pg_name (i := 4) sc_check_asks.nd rfl (Or.inl rfl)) pgs_nil)))
      (pss_cons (ps_if (PW.pt (pw_or (pt_cmpR op_eq (pv 3) (pe_glob (v := .int 8) rfl g_MOST_ASKS ⟨_, rfl⟩) (nomark _)) (pw_or1 (pt_not (pt_val (pe_callR F_is_ask (hr.mono (by decide)) rfl T.g_is_ask T.k_is_ask (pa_cons (pv 4) (pa_cons (pe_callB call_len_seq rfl T.u_len PySem.boot_len (pa_cons (pv 1) pa_nil)) (pa_cons (pv 2) pa_nil)))))))))
      (pss_one ps_never)
      pss_nil)
      (pss_one (ps_set (i := 2) sc_check_asks.nd rfl (Or.inl rfl) (pe_ix ix_tup (pv 4) pe_int (fun _ _ => rfl))))))))), ?_⟩
    refine ⟨_, rfl, rfl, _, .lst A'.lst, _, rfl, iteF ?_⟩ -- isinstance(asks, list)
    refine ⟨_, rfl, al, qs.map V.ref, rfl, A'.lst, for_it walk_enum (fun i σ H2 => ∃ (e : Int) (v3 v4 : Option V), σ = [some (.ref al), some (.ref wl), some (.int e), v3, v4] ∧ Same H H2 ∧ (∀ a, as[i]? = some a → e ≤ a.1)) ⟨0, none, none, rfl, Same.refl H, fun a ha => (ok.each a (List.mem_of_getElem? ha)).1.1⟩ (fun i σ H2 _ ⟨_, _, _, _, s2, _⟩ => s2.seq A'.lst) ?_ ?_⟩
    · rintro i x σ H2 H3 hi ⟨e, v3, v4, rfl, s2, he⟩ ⟨t, y, z, rfl, ht, rfl, e1, e2⟩
      cases e1
      rw [List.length_map] at hi
      have hi2 : i < as.length := by rw [← A'.len]; exact hi
      obtain ⟨r, hr'⟩ : ∃ r, as[i]? = some r := ⟨_, List.getElem?_eq_getElem hi2⟩
      obtain ⟨a, e3⟩ : ∃ a, qs[i]? = some a := ⟨_, List.getElem?_eq_getElem hi⟩
      have e4 := A'.at_ i a r e3 hr'
      have e2 : (qs.map V.ref)[i]? = some z := e2
      rw [List.getElem?_map, e3] at e2
      cases e2
      have s3 : Same H (upd H2 t (.tup [.int (i : Int), .ref a])) := s2.trans (Same.new (Same.refl H2) ht)
      have hok := ok.each r (List.mem_of_getElem? hr')
      have l8 := ok.len
      refine ⟨t, _, rfl, .inl (.inl upd_same), rfl, _, _, rfl, _, _, rfl, rfl, ?_⟩
      refine ⟨_, rfl, rfl, _, rfl, ?_⟩
      rw [dec_int', decide_eq_false (by omega)]
      refine iteF ?_
      refine ⟨_, rfl, _, rfl, _, _, rfl, .inl (s3.seq W.lst), ?_⟩
      rw [List.length_map, W.len]
      refine ⟨_, rfl, a, ks.length, r.1, r.2, e, rfl, Same.tup s3 e4, hok.1, he r hr', hok.2.1, hok.2.2, ?_⟩
      refine ⟨_, rfl, iteF ?_⟩
      refine ⟨_, rfl, _, _, _, _, rfl, rfl, Same.tup s3 e4, at0 _ _, ?_⟩
      exact ⟨r.1, _, _, rfl, s3, fun b hb => ok.srt i r b hr' hb⟩
    · rintro σ H2 ⟨e, v3, v4, rfl, s2, _⟩
      exact q _ s2
end
end SB

set_option Elab.async false
set_option linter.all false
set_option maxRecDepth 100000
set_option maxHeartbeats 2000000
namespace SB
open PySem L2
def rIxLT (K : PySem.W.Frag) : R2 := fun x y H Q => rIxL K x y H Q ∨ rIxT K x y H Q
theorem ix_lt {X : Cx} : IxR X (rIxLT X.K) := by
  intro value slice pins s σ H x y v u Q I rx ry h e
  rcases h with h | h
  · exact ix_list value slice pins s σ H x y v u Q I rx ry h e
  · exact ix_tup value slice pins s σ H x y v u Q I rx ry h e
inductive Sm : PyData → Prop
  | non : Sm .none
  | bl (b : Bool) : Sm (.bool b)
  | int (i : Int) : Sm (.int i)
  | str (x : Str) : Sm (.str x)
  | lst {ds : List PyData} (h : ds.length ≤ 1000) (a : ∀ d ∈ ds, Sm d) : Sm (.list ds)
  | tup {ds : List PyData} (h : ds.length ≤ 1000) (a : ∀ d ∈ ds, Sm d) : Sm (.tuple ds)
  | wide {ds : List PyData} (h : ds.length ≤ 1000000) (a : ∀ d ∈ ds, Sm d) : Sm (.list ds)
theorem depth_mem : ∀ {ds : List PyData} {d : PyData}, d ∈ ds → PyData.depth d ≤ PyData.depthAll ds
  | x :: r, d, h => by
    show _ ≤ max (PyData.depth x) (PyData.depthAll r)
    rcases List.mem_cons.mp h with rfl | h
    · exact Nat.le_max_left _ _
    · exact Nat.le_trans (depth_mem h) (Nat.le_max_right _ _)
section
variable {P : Program} {w : World} {K : PySem.W.Frag} {mg : Str → Option Value} {base : Heap} {H H' : Hp}
theorem dpAll_at : ∀ {xs : List V} {ds : List PyData}, DpAll K H xs ds → xs.length = ds.length ∧ ∀ (j : Nat) (x : V) (d : PyData), xs[j]? = some x → ds[j]? = some d → Dp K H x d
  | _, _, .nil => ⟨rfl, fun j x d e => by simp at e⟩
  | _, _, .cons h t => by
    obtain ⟨h1, h2⟩ := dpAll_at t
    refine ⟨by simp [h1], fun j x d e1 e2 => ?_⟩
    cases j with
    | zero =>
      have a1 := Option.some.inj e1
      have a2 := Option.some.inj e2
      subst a1 a2
      exact h
    | succ j => exact h2 j x d (by simpa using e1) (by simpa using e2)
mutual
theorem dp_same (s : Same H H') : ∀ {v : V} {d : PyData}, Dp K H v d → Dp K H' v d
  | _, _, .non => .non
  | _, _, .bl b => .bl b
  | _, _, .int i => .int i
  | _, _, .str x => .str x
  | _, _, .lst h t => .lst (s.seq h) (dpAll_same s t)
  | _, _, .tup h t => .tup (Same.tup s h) (dpAll_same s t)
theorem dpAll_same (s : Same H H') : ∀ {vs : List V} {ds : List PyData}, DpAll K H vs ds → DpAll K H' vs ds
  | _, _, .nil => .nil
  | _, _, .cons h t => .cons (dp_same s h) (dpAll_same s t)
end
def sp_alike (K : PySem.W.Frag) (n : Nat) : Sp := fun vs H Q _ => ∃ (x y : V) (d : PyData), vs = [x, y] ∧ Dp K H x d ∧ Dp K H y d ∧ Sm d ∧ PyData.depth d ≤ n ∧ ∀ H', Same H H' → Q (.bl true) H'
end
end SB

set_option Elab.async false
set_option linter.all false
set_option maxRecDepth 100000
set_option maxHeartbeats 4000000
namespace SB
open PySem L2 StX
inductive Pl : Nat → PyData → Prop
  | non (n : Nat) : Pl n .none
  | bl (n : Nat) (b : Bool) : Pl n (.bool b)
  | int (n : Nat) (i : Int) : Pl n (.int i)
  | str (n : Nat) {z : Str} (h : PyData.canLay0 (.str z) = true) : Pl n (.str z)
  | tup (n : Nat) {ds : List PyData} (a : ∀ d ∈ ds, Pl n d) : Pl (n + 1) (.tuple ds)
theorem lay_mem : ∀ {ds : List PyData}, (∀ d ∈ ds, PyData.canLay0 d = true) → PyData.canLayAll0 ds = true
  | [], _ => rfl
  | d :: r, h => by
    show (PyData.canLay0 d && PyData.canLayAll0 r) = true
    rw [h d List.mem_cons_self, lay_mem fun x hx => h x (List.mem_cons_of_mem _ hx)]
    rfl
theorem deep_mem {n : Nat} : ∀ {ds : List PyData}, (∀ d ∈ ds, PyData.depth d ≤ n) → PyData.depthAll ds ≤ n
  | [], _ => Nat.zero_le _
  | d :: r, h => by
    show max (PyData.depth d) (PyData.depthAll r) ≤ n
    have h1 := h d List.mem_cons_self
    have h2 := deep_mem fun x hx => h x (List.mem_cons_of_mem _ hx)
    omega
theorem Pl.lay {n : Nat} {d : PyData} (h : Pl n d) : PyData.canLay0 d = true ∧ PyData.depth d ≤ n := by
  induction h with
  | non n => exact ⟨rfl, Nat.zero_le _⟩
  | bl n b => exact ⟨rfl, Nat.zero_le _⟩
  | int n i => exact ⟨rfl, Nat.zero_le _⟩
  | str n h => exact ⟨h, Nat.zero_le _⟩
  | tup n a ih => exact ⟨lay_mem fun d hd => (ih d hd).1, Nat.succ_le_succ (deep_mem fun d hd => (ih d hd).2)⟩
theorem Pl.shaped {n : Nat} {d : PyData} (h : Pl n d) (hn : n ≤ 64) : SeqAt.shaped d = true := by
  show (PyData.canLay0 d && decide (PyData.depth d ≤ 64)) = true
  rw [h.lay.1, decide_eq_true (Nat.le_trans h.lay.2 hn)]
  rfl
def numD (d : PyData) (lo hi : Int) : Bool := match d with
  | .int i => decide (lo ≤ i) && decide (i ≤ hi)
  | _ => false
def strIn (d : PyData) (xs : List Str) : Bool := (xs.map PyData.str).any fun z => PyData.eqv z d
def deedD : PyData → Bool
  | .tuple [a, b, c] => strIn a ["get", "put"] && (numD b 0 31 && numD c 0 999)
  | _ => false
def movedD : PyData → Bool
  | .none => true
  | .tuple [a, b, c, e] => numD a 0 5 && deedD (.tuple [b, c, e])
  | _ => false
def toldD : PyData → Bool
  | .tuple [m, x] => movedD m && (strIn x ["waits", "goes", "ends"] || deedD x)
  | _ => false
section
variable {P : Program} {w : World} {K : PySem.W.Frag} {mg : Str → Option Value} {base : Heap} {H H' : Hp}
theorem Pl.ty {n : Nat} {d : PyData} {v : V} (h : Pl n d) (D : Dp K H v d) : ∃ nm, TyN K H v nm := by
  cases h with
  | non n => cases D; exact ⟨_, .non⟩
  | bl n b => cases D; exact ⟨_, .bl _⟩
  | int n i => cases D; exact ⟨_, .int _⟩
  | str n h => cases D; exact ⟨_, .str _⟩
  | tup n a => cases D with | tup ht _ => exact ⟨_, .tup ht⟩
theorem num_dp {d : PyData} {v : V} (lo hi : Int) (D : Dp K H v d) : numB v lo hi = numD d lo hi := by
  cases D <;> rfl
theorem dp_strs {a : Addr} {xs : List Str} (h : SqT K H a (xs.map V.str)) : Dp K H (.ref a) (.tuple (xs.map PyData.str)) := by
  refine .tup h ?_
  clear h
  induction xs with
  | nil => exact .nil
  | cons x r ih => exact .cons (.str x) ih
def sp_is_deed (K : PySem.W.Frag) : Sp := fun vs H Q _ => ∃ (v : V) (n : Nat) (d : PyData), vs = [v] ∧ Dp K H v d ∧ Pl n d ∧ n ≤ 64 ∧ Q (.bl (deedD d)) H
theorem ok_is_deed (T : T w K mg) : FnR P w K mg base CX0 3 (He.ga K "is_deed") (sp_is_deed K) := by
  have F_is_part : FnR P w K mg base CX0 2 _ _ := ok_is_part T
  obtain ⟨fd, F⟩ := T.f_is_deed
  refine F.r sc_is_deed (fun _ _ _ _ _ _ us hl => match us, hl with | [_], _ => rfl) (fun vs H Q E h => ?_) (fun cdv A outer s H vs Q E hr h => ?_)
  · obtain ⟨_, _, _, rfl, _⟩ := h
    rfl
  · obtain ⟨v, n, d, rfl, D, p, hn, q⟩ := h
    have hu := hr.units
    have hu65 : (A.deeper (PyProof.Rows.envOfC "is_deed" (defScope s_is_deed) s.heap.objs.size (He.ga K "is_deed") cdv)).units + 65 < cLine := by have := hr.un; omega
    refine ⟨_, (pss_cons (ps_if (PW.pt (pw_or (pt_not (pt_val (pe_isi (n := "tuple") rfl T.u_isinstance rfl T.u_tuple (pv 0)))) (pw_or1 (pt_cmpR op_ne (pe_callB call_len_seq rfl T.u_len PySem.boot_len (pa_cons (pv 0) pa_nil)) pe_int (nomark _)))))
      (pss_one (ps_ret pe_bl))
      pss_nil)
      (pss_cons (ps_asg (pv 0) (pg_tup rfl (pgs_cons (pg_name (i := 1) sc_is_deed.nd rfl (Or.inl rfl)) (pgs_cons (pg_name (i := 2) sc_is_deed.nd rfl (Or.inl rfl)) (pgs_cons (pg_name (i := 3) sc_is_deed.nd rfl (Or.inl rfl)) pgs_nil)))))
      (pss_one (ps_ret (pe_and (pe_cmpR (op_inT hu65) (pv 1) (pe_glob (v := .ref (He.ga K "DEEDS")) rfl T.g_DEEDS rfl) rfl) (pe_and (pe_callR F_is_part (hr.mono (by decide)) rfl T.g_is_part T.k_is_part (pa_cons (pv 2) (pa_cons pe_str pa_nil))) (pe_one (pe_callR F_is_part (hr.mono (by decide)) rfl T.g_is_part T.k_is_part (pa_cons (pv 3) (pa_cons pe_str pa_nil)))))))))), ?_⟩
    cases p with
    | non n => cases D; exact ⟨_, rfl, rfl, _, .non, _, rfl, iteT (iteT q)⟩
    | bl n b => cases D; exact ⟨_, rfl, rfl, _, .bl _, _, rfl, iteT (iteT q)⟩
    | int n i => cases D; exact ⟨_, rfl, rfl, _, .int _, _, rfl, iteT (iteT q)⟩
    | str n h => cases D; exact ⟨_, rfl, rfl, _, .str _, _, rfl, iteT (iteT q)⟩
    | tup n a =>
      cases D with
      | tup ht hds =>
        refine ⟨_, rfl, rfl, _, .tup ht, _, rfl, iteF ?_⟩
        refine ⟨_, rfl, _, _, rfl, .inr ht, rfl, _, rfl, ?_⟩
        cases hds with
        | nil => exact iteT q
        | cons d1 hds =>
        cases hds with
        | nil => exact iteT q
        | cons d2 hds =>
        cases hds with
        | nil => exact iteT q
        | cons d3 hds =>
        cases hds with
        | cons d4 hds =>
          rename_i v1 a1 v2 a2 v3 a3 v4 vs4 a4 ds4
          have e : (!decide (V.int (((v1 :: v2 :: v3 :: v4 :: vs4).length : Nat) : Int) = V.int 3)) = true := by
            rw [Bool.not_eq_true', decide_eq_false_iff_not]
            intro z
            injection z with z
            rw [List.length_cons, List.length_cons, List.length_cons, List.length_cons] at z
            omega
          show ite ((!decide (V.int (((v1 :: v2 :: v3 :: v4 :: vs4).length : Nat) : Int) = V.int 3)) = true) _ _
          rw [if_pos e]
          exact q
        | nil =>
          rename_i v1 a1 v2 a2 v3 a3
          have p1 := a a1 (by simp)
          have p2 := a a2 (by simp)
          have p3 := a a3 (by simp)
          refine iteF ?_
          refine ⟨_, rfl, _, _, rfl, ht, rfl, _, _, rfl, _, _, rfl, _, _, rfl, rfl, ?_⟩
          refine ⟨_, rfl, a1, _, d1, dp_strs (xs := ["get", "put"]) (T.tt_DEEDS H), p1.shaped (by omega), by decide +kernel, _, rfl, ?_⟩
          obtain ⟨nm2, t2⟩ := p2.ty d2
          obtain ⟨nm3, t3⟩ := p3.ty d3
          have e0 : deedD (.tuple [a1, a2, a3]) = (strIn a1 ["get", "put"] && (numD a2 0 31 && numD a3 0 999)) := rfl
          rw [e0] at q
          show ite (strIn a1 ["get", "put"] = true) _ _
          cases h1 : strIn a1 ["get", "put"] with
          | false =>
            rw [h1] at q
            exact iteF q
          | true =>
            rw [h1] at q
            refine iteT ?_
            refine ⟨_, rfl, _, _, 0, 31, nm2, rfl, T.e_BOUNDS_address, t2, ?_⟩
            rw [num_dp 0 31 d2]
            refine ⟨_, rfl, ?_⟩
            cases h2 : numD a2 0 31 with
            | false =>
              rw [h2] at q
              exact iteF q
            | true =>
              rw [h2] at q
              refine iteT ?_
              refine ⟨_, rfl, _, _, 0, 999, nm3, rfl, T.e_BOUNDS_word, t3, ?_⟩
              rw [num_dp 0 999 d3]
              exact q
end
end SB

set_option Elab.async false
set_option linter.all false
set_option maxRecDepth 100000
set_option maxHeartbeats 4000000
namespace SB
open PySem L2 StX
section
variable {P : Program} {w : World} {K : PySem.W.Frag} {mg : Str → Option Value} {base : Heap} {H H' : Hp}
theorem sliceT1 {z : V} {r : List V} {a : Addr} {Q : VK} (ht : SqT K H a (z :: r)) (h : ∀ t, H t = none → Q (.ref t) (upd H t (.tup r))) : rSlT K (.ref a) (some 1) none H Q := by
  refine ⟨a, _, rfl, ht, ?_, fun t nt => ?_⟩
  · rw [List.length_cons, sIx1]
    exact fun z => absurd z.1 (by decide)
  · rw [cut1]
    exact h t nt
mutual
theorem dpS (s : Same H H') : ∀ {v : V} {d : PyData}, Dp K H v d → Dp K H' v d
  | _, _, .non => .non
  | _, _, .bl b => .bl b
  | _, _, .int i => .int i
  | _, _, .str x => .str x
  | _, _, .lst h a => .lst (s.seq h) (dpSs s a)
  | _, _, .tup h a => .tup (Same.tup s h) (dpSs s a)
theorem dpSs (s : Same H H') : ∀ {vs : List V} {ds : List PyData}, DpAll K H vs ds → DpAll K H' vs ds
  | _, _, .nil => .nil
  | _, _, .cons h t => .cons (dpS s h) (dpSs s t)
end
def sp_is_moved (K : PySem.W.Frag) : Sp := fun vs H Q _ => ∃ (v : V) (n : Nat) (d : PyData), vs = [v] ∧ Dp K H v d ∧ Pl n d ∧ n ≤ 64 ∧ ∀ H', Same H H' → Q (.bl (movedD d)) H'
theorem ok_is_moved (T : T w K mg) : FnR P w K mg base CX0 4 (He.ga K "is_moved") (sp_is_moved K) := by
  have F_is_part : FnR P w K mg base CX0 2 _ _ := ok_is_part T
  have F_is_deed : FnR P w K mg base CX0 3 _ _ := ok_is_deed T
  obtain ⟨fd, F⟩ := T.f_is_moved
  refine F.r sc_is_moved (fun _ _ _ _ _ _ us hl => match us, hl with | [_], _ => rfl) (fun vs H Q E h => ?_) (fun cdv A outer s H vs Q E hr h => ?_)
  · obtain ⟨_, _, _, rfl, _⟩ := h
    rfl
  · obtain ⟨v, n, d, rfl, D, p, hn, q⟩ := h
    have q0 := q H (Same.refl H)
    refine ⟨_, (pss_cons (ps_if (pt_cmp (pc_isN (pv 0)))
      (pss_one (ps_ret pe_bl))
      pss_nil)
      (pss_one (ps_ret (pe_and (pe_isi (n := "tuple") rfl T.u_isinstance rfl T.u_tuple (pv 0)) (pe_and (pe_cmpR op_eq (pe_callB call_len_seq rfl T.u_len PySem.boot_len (pa_cons (pv 0) pa_nil)) pe_int (nomark _)) (pe_and (pe_callR F_is_part (hr.mono (by decide)) rfl T.g_is_part T.k_is_part (pa_cons (pe_ix ix_tup (pv 0) pe_int (fun _ _ => rfl)) (pa_cons pe_str pa_nil))) (pe_one (pe_callR F_is_deed (hr.mono (by decide)) rfl T.g_is_deed T.k_is_deed (pa_cons (pe_slice sl_tup (pv 0) (po_some pe_int) po_none) pa_nil))))))))), ?_⟩
    cases p with
    | non n => cases D; exact ⟨_, rfl, _, rfl, iteT q0⟩
    | bl n b => cases D; exact ⟨_, rfl, _, rfl, iteF ⟨_, rfl, rfl, _, .bl _, _, rfl, iteF q0⟩⟩
    | int n i => cases D; exact ⟨_, rfl, _, rfl, iteF ⟨_, rfl, rfl, _, .int _, _, rfl, iteF q0⟩⟩
    | str n h => cases D; exact ⟨_, rfl, _, rfl, iteF ⟨_, rfl, rfl, _, .str _, _, rfl, iteF q0⟩⟩
    | tup n a =>
      cases D with
      | tup ht hds =>
        refine ⟨_, rfl, _, rfl, iteF ⟨_, rfl, rfl, _, .tup ht, _, rfl, iteT ?_⟩⟩
        refine ⟨_, rfl, _, _, rfl, .inr ht, rfl, _, rfl, ?_⟩
        cases hds with
        | nil => exact iteF q0
        | cons d1 hds =>
        cases hds with
        | nil => exact iteF q0
        | cons d2 hds =>
        cases hds with
        | nil => exact iteF q0
        | cons d3 hds =>
        cases hds with
        | nil => exact iteF q0
        | cons d4 hds =>
        cases hds with
        | cons d5 hds =>
          rename_i v1 a1 v2 a2 v3 a3 v4 a4 v5 vs5 a5 ds5
          have e : decide (V.int (((v1 :: v2 :: v3 :: v4 :: v5 :: vs5).length : Nat) : Int) = V.int 4) = false := by
            rw [decide_eq_false_iff_not]
            intro z
            injection z with z
            rw [List.length_cons, List.length_cons, List.length_cons, List.length_cons, List.length_cons] at z
            omega
          show ite (decide (V.int (((v1 :: v2 :: v3 :: v4 :: v5 :: vs5).length : Nat) : Int) = V.int 4) = true) _ _
          rw [e]
          exact iteF q0
        | nil =>
          rename_i v1 a1 v2 a2 v3 a3 v4 a4
          have p1 := a a1 (by simp)
          obtain ⟨nm1, t1⟩ := p1.ty d1
          have e0 : movedD (.tuple [a1, a2, a3, a4]) = (numD a1 0 5 && deedD (.tuple [a2, a3, a4])) := rfl
          rw [e0] at q
          rw [e0] at q0
          refine iteT ?_
          refine ⟨_, rfl, _, _, 0, v1, rfl, rfl, ht, rfl, _, _, 0, 5, nm1, rfl, T.e_BOUNDS_work, t1, ?_⟩
          rw [num_dp 0 5 d1]
          refine ⟨_, rfl, ?_⟩
          cases h2 : numD a1 0 5 with
          | false =>
            rw [h2] at q0
            exact iteF q0
          | true =>
            rw [h2] at q
            refine iteT ?_
            refine ⟨_, rfl, _, rfl, ?_⟩
            unfold tNoPart
            refine sliceT1 ht fun t nt => ?_
            have s1 : Same H (upd H t (.tup [v2, v3, v4])) := Same.new (Same.refl _) nt
            refine ⟨_, n + 1, .tuple [a2, a3, a4], rfl, .tup (SqT.of upd_same) (dpSs s1 (.cons d2 (.cons d3 (.cons d4 .nil)))), .tup n (fun d hd => a d (List.mem_cons_of_mem _ hd)), hn, q _ s1⟩
def sp_is_told (K : PySem.W.Frag) : Sp := fun vs H Q _ => ∃ (v : V) (n : Nat) (d : PyData), vs = [v] ∧ Dp K H v d ∧ Pl n d ∧ n ≤ 64 ∧ ∀ H', Same H H' → Q (.bl (toldD d)) H'
theorem ok_is_told (T : T w K mg) : FnR P w K mg base CX0 5 (He.ga K "is_told") (sp_is_told K) := by
  have F_is_moved : FnR P w K mg base CX0 4 _ _ := ok_is_moved T
  have F_is_deed : FnR P w K mg base CX0 3 _ _ := ok_is_deed T
  obtain ⟨fd, F⟩ := T.f_is_told
  refine F.r sc_is_told (fun _ _ _ _ _ _ us hl => match us, hl with | [_], _ => rfl) (fun vs H Q E h => ?_) (fun cdv A outer s H vs Q E hr h => ?_)
  · obtain ⟨_, _, _, rfl, _⟩ := h
    rfl
  · obtain ⟨v, n, d, rfl, D, p, hn, q⟩ := h
    have q0 := q H (Same.refl H)
    have hu65 : (A.deeper (PyProof.Rows.envOfC "is_told" (defScope s_is_told) s.heap.objs.size (He.ga K "is_told") cdv)).units + 65 < cLine := by have := hr.un; omega
    refine ⟨_, (pss_cons (ps_if (PW.pt (pw_or (pt_not (pt_val (pe_isi (n := "tuple") rfl T.u_isinstance rfl T.u_tuple (pv 0)))) (pw_or1 (pt_cmpR op_ne (pe_callB call_len_seq rfl T.u_len PySem.boot_len (pa_cons (pv 0) pa_nil)) pe_int (nomark _)))))
      (pss_one (ps_ret pe_bl))
      pss_nil)
      (pss_cons (ps_asg (pv 0) (pg_tup rfl (pgs_cons (pg_name (i := 1) sc_is_told.nd rfl (Or.inl rfl)) (pgs_cons (pg_name (i := 2) sc_is_told.nd rfl (Or.inl rfl)) pgs_nil))))
      (pss_one (ps_ret (pe_and (pe_callR F_is_moved (hr.mono (by decide)) rfl T.g_is_moved T.k_is_moved (pa_cons (pv 1) pa_nil)) (pe_one (pe_or (pe_cmpR (op_inT hu65) (pv 2) (pe_glob (v := .ref (He.ga K "WORDLESS")) rfl T.g_WORDLESS rfl) rfl) (pe_one (pe_callR F_is_deed (hr.mono (by decide)) rfl T.g_is_deed T.k_is_deed (pa_cons (pv 2) pa_nil)))))))))), ?_⟩
    cases p with
    | non n => cases D; exact ⟨_, rfl, rfl, _, .non, _, rfl, iteT (iteT q0)⟩
    | bl n b => cases D; exact ⟨_, rfl, rfl, _, .bl _, _, rfl, iteT (iteT q0)⟩
    | int n i => cases D; exact ⟨_, rfl, rfl, _, .int _, _, rfl, iteT (iteT q0)⟩
    | str n h => cases D; exact ⟨_, rfl, rfl, _, .str _, _, rfl, iteT (iteT q0)⟩
    | tup n a =>
      cases D with
      | tup ht hds =>
        refine ⟨_, rfl, rfl, _, .tup ht, _, rfl, iteF ?_⟩
        refine ⟨_, rfl, _, _, rfl, .inr ht, rfl, _, rfl, ?_⟩
        cases hds with
        | nil => exact iteT q0
        | cons d1 hds =>
        cases hds with
        | nil => exact iteT q0
        | cons d2 hds =>
        cases hds with
        | cons d3 hds =>
          rename_i v1 a1 v2 a2 v3 vs3 a3 ds3
          have e : (!decide (V.int (((v1 :: v2 :: v3 :: vs3).length : Nat) : Int) = V.int 2)) = true := by
            rw [Bool.not_eq_true', decide_eq_false_iff_not]
            intro z
            injection z with z
            rw [List.length_cons, List.length_cons, List.length_cons] at z
            omega
          show ite ((!decide (V.int (((v1 :: v2 :: v3 :: vs3).length : Nat) : Int) = V.int 2)) = true) _ _
          rw [if_pos e]
          exact q0
        | nil =>
          rename_i v1 a1 v2 a2
          have p1 := a a1 (by simp)
          have p2 := a a2 (by simp)
          have e0 : toldD (.tuple [a1, a2]) = (movedD a1 && (strIn a2 ["waits", "goes", "ends"] || deedD a2)) := rfl
          rw [e0] at q
          refine iteF ?_
          refine ⟨_, rfl, _, _, rfl, ht, rfl, _, _, rfl, _, _, rfl, rfl, ?_⟩
          refine ⟨_, rfl, _, n, a1, rfl, d1, p1, by omega, fun H1 s1 => ⟨_, rfl, ?_⟩⟩
          cases h1 : movedD a1 with
          | false =>
            rw [h1] at q
            exact iteF (q _ s1)
          | true =>
            rw [h1] at q
            refine iteT ?_
            have q1 := q _ s1
            refine ⟨_, rfl, a2, _, dpS s1 d2, dp_strs (xs := ["waits", "goes", "ends"]) (T.tt_WORDLESS H1), p2.shaped (by omega), by decide +kernel, ?_⟩
            refine ⟨strIn a2 ["waits", "goes", "ends"], rfl, ?_⟩
            cases h2 : strIn a2 ["waits", "goes", "ends"] with
            | true =>
              rw [h2] at q1
              exact iteT q1
            | false =>
              rw [h2] at q1
              exact iteF ⟨_, rfl, _, n, a2, rfl, dpS s1 d2, p2, by omega, q1⟩
def tBad (C : Addr) (n : Int) (E : XK) (H : Hp) : Prop := ∀ (H' : Hp) (d : Addr), H' d = some (.xd [(("at" : Str), .int n)]) → Same H H' → E (.ref C) (some d) H'
def badAt (ds : List PyData) : Option Nat := (ds.map toldD).idxOf? false
theorem Pl.up {n m : Nat} {d : PyData} (h : Pl n d) (l : n ≤ m) : Pl m d := by
  induction h generalizing m with
  | non n => exact .non m
  | bl n b => exact .bl m b
  | int n i => exact .int m i
  | str n h => exact .str m h
  | tup n a ih =>
    obtain ⟨k, rfl⟩ : ∃ k, m = k + 1 := ⟨m - 1, by omega⟩
    exact .tup k fun d hd => ih d hd (by omega)
structure LogT (P : Program) (K : PySem.W.Frag) (mg : Str → Option Value) : Prop where
  bad : ∃ fI, PySem.BadX.BadTxt P K mg "BadLog" "at" "beat " " of the log is none" (He.ga K "BadLog") fI (He.ga K "BeatError")
theorem short_all25 : ∀ n : Fin 301, (decide (((n.val : Nat) : Int).natAbs.log2 < 1920) && decide ((("beat " : Str) ++ Str.ofString (toString ((n.val : Nat) : Int)) ++ (" of the log is none" : Str)).length ≤ 100)) = true := by decide +kernel
theorem short25 {n : Nat} (h : n ≤ 300) : ShortIn "beat " " of the log is none" (n : Int) := by
  have h := short_all25 ⟨n, by omega⟩
  rw [Bool.and_eq_true, decide_eq_true_eq, decide_eq_true_eq] at h
  exact ⟨h.1, Nat.le_trans h.2 (by decide)⟩
def sp_check_log (K : PySem.W.Frag) : Sp := fun vs H Q E => ∃ (l : Addr) (xs : List V) (ds : List PyData), vs = [.ref l] ∧ H l = some (.lst xs) ∧ DpAll K H xs ds ∧ (∀ d ∈ ds, Pl 60 d) ∧
  (((∀ d ∈ ds, toldD d = true) ∧ ds.length ≤ 300 ∧ ∀ H', Same H H' → Q .non H') ∨
   ∃ i, i < ds.length ∧ i ≤ 300 ∧ (∀ j d, j < i → ds[j]? = some d → toldD d = true) ∧ (i = 300 ∨ ∃ d, ds[i]? = some d ∧ toldD d = false) ∧ tBad (He.ga K "BadLog") (i : Int) E H)
theorem ok_check_log (T : T w K mg) (LT : LogT P K mg) : FnR P w K mg base (L2.CX P w) 6 (He.ga K "check_log") (sp_check_log K) := by
  have F_is_told : FnR P w K mg base CX0 5 _ _ := ok_is_told T
  obtain ⟨t1, g_MOST_BEATS⟩ := T.i_MOST_BEATS
  obtain ⟨fI, BT⟩ := LT.bad
  obtain ⟨fd, F⟩ := T.f_check_log
  refine F.rX sc_check_log (fun _ _ _ _ _ _ us hl => match us, hl with | [_], _ => rfl) (fun vs H Q E h => ?_) (fun cdv A outer s H vs Q E hr h => ?_)
  · obtain ⟨_, _, _, rfl, _⟩ := h
    rfl
  · obtain ⟨l, xs, ds, rfl, hl, D, p, q⟩ := h
    have tk := takes_of (X := cxOf (L2.CX P w) P w K mg base ["log", "at", "beat"] "check_log" (defScope s_check_log) (He.ga K "check_log") cdv A outer s H E) (E := E) rfl rfl rfl rfl
    refine ⟨_, (pss_cons (ps_if (pt_not (pt_val (pe_isi (n := "list") rfl T.u_isinstance rfl T.u_list (pv 0))))
      (pss_one ps_never)
      pss_nil)
      (pss_one (ps_for (passes_of rfl) rfl (pi_enum rfl T.u_enumerate (pa_cons (pv 0) pa_nil)) (pg_tup rfl (pgs_cons (pg_name (i := 1) sc_check_log.nd rfl (Or.inl rfl)) (pgs_cons (pg_name (i := 2) sc_check_log.nd rfl (Or.inl rfl)) pgs_nil)))
      (pss_one (ps_if (PW.pt (pw_or (pt_cmpR op_eq (pv 1) (pe_glob (v := .int 300) rfl g_MOST_BEATS ⟨_, rfl⟩) (nomark _)) (pw_or1 (pt_not (pt_val (pe_callR F_is_told (hr.mono (by decide)) rfl T.g_is_told T.k_is_told (pa_cons (pv 2) pa_nil)))))))
      (pss_one (ps_raise rfl tk (pmk_bad BT hr (pa_cons (pv 1) pa_nil) rfl (by decide))))
      pss_nil))))), ?_⟩
    have hds := dpAll_at D
    refine ⟨_, rfl, rfl, _, .lst (SqL.of hl), _, rfl, iteF ?_⟩ -- isinstance(log, list)
    refine ⟨_, rfl, l, xs, rfl, SqL.of hl, for_it walk_enum (fun i σ H2 => ∃ (v1 v2 : Option V), σ = [some (.ref l), v1, v2] ∧ Same H H2 ∧ (∀ j d, j < i → ds[j]? = some d → toldD d = true) ∧ i ≤ 300) ⟨none, none, rfl, Same.refl H, fun j d hj => absurd hj (Nat.not_lt_zero j), Nat.zero_le _⟩ (fun i σ H2 _ ⟨_, _, _, s2, _⟩ => s2.seq (SqL.of hl)) ?_ ?_⟩
    · rintro i x σ H2 H3 hi ⟨v1, v2, rfl, s2, told, le⟩ ⟨t, y, z, rfl, ht, rfl, e1, e2⟩
      cases e1
      have hi2 : i < ds.length := by rw [← hds.1]; exact hi
      obtain ⟨d, hd⟩ : ∃ d, ds[i]? = some d := ⟨_, List.getElem?_eq_getElem hi2⟩
      have e2 : xs[i]? = some z := e2
      have Dz := hds.2 i z d e2 hd
      have pz := p d (List.mem_of_getElem? hd)
      have s3 : Same H (upd H2 t (.tup [.int (i : Int), z])) := s2.trans (Same.new (Same.refl H2) ht)
      refine ⟨t, _, rfl, .inl (.inl upd_same), rfl, _, _, rfl, _, _, rfl, rfl, ?_⟩
      refine ⟨_, rfl, rfl, _, rfl, ?_⟩
      rw [dec_int']
      by_cases c300 : i = 300
      · rw [decide_eq_true (by omega)]
        refine iteT (iteT ?_)
        rcases q with ⟨_, h3, _⟩ | ⟨i0, h0, h1, _, h3, tb⟩
        · omega
        · have e0 : i0 = 300 := by
            rcases h3 with h3 | ⟨d0, hd0, hf⟩
            · exact h3
            · by_cases c : i0 < i
              · rw [told i0 d0 c hd0] at hf
                cases hf
              · omega
          subst e0
          subst c300
          exact ⟨_, rfl, (300 : Int), rfl, short25 (by decide), fun d nd => tb _ _ upd_same (s3.trans (Same.new (Same.refl _) nd))⟩
      · rw [decide_eq_false (by omega)]
        refine iteF ?_
        refine ⟨_, rfl, z, 60, d, rfl, dpS s3 Dz, pz, by decide, fun H4 s4 => ?_⟩
        have s34 := s3.trans s4
        refine ⟨_, rfl, ?_⟩
        cases ct : toldD d with
        | true =>
          refine iteF ?_
          refine ⟨_, _, rfl, s34, fun j d' hj hd' => ?_, by omega⟩
          by_cases c : j = i
          · subst c
            rw [hd] at hd'
            cases hd'
            exact ct
          · exact told j d' (by omega) hd'
        | false =>
          refine iteT ?_
          rcases q with ⟨h1, _, _⟩ | ⟨i0, h0, h1, h2, h3, tb⟩
          · rw [h1 d (List.mem_of_getElem? hd)] at ct
            cases ct
          · have e0 : i0 = i := by
              by_cases c : i < i0
              · rw [h2 i d c hd] at ct
                cases ct
              · by_cases c2 : i0 < i
                · rcases h3 with h3 | ⟨d0, hd0, hf⟩
                  · omega
                  · rw [told i0 d0 c2 hd0] at hf
                    cases hf
                · omega
            subst e0
            exact ⟨_, rfl, (i0 : Int), rfl, short25 (by omega), fun d nd => tb _ _ upd_same (s34.trans (Same.new (Same.refl _) nd))⟩
    · rintro σ H2 ⟨v1, v2, rfl, s2, told, le⟩
      rcases q with ⟨_, _, q⟩ | ⟨i0, h0, h1, h2, h3, tb⟩
      · exact q _ s2
      · exfalso
        have hlen : xs.length = ds.length := hds.1
        rcases h3 with h3 | ⟨d0, hd0, hf⟩
        · omega
        · rw [told i0 d0 (by omega) hd0] at hf
          cases hf
end
end SB

set_option Elab.async false
set_option linter.all false
set_option maxRecDepth 100000
set_option maxHeartbeats 1000000
namespace SB
open PySem L2 StX
def formsD (n : Int) : List (Str × List (Int × Int)) := [("set", [(0, 3), (0, 999)]), ("add", [(0, 3), (0, 3)]), ("less", [(0, 3), (0, 3)]), ("get", [(0, 3), (0, 31)]), ("put", [(0, 31), (0, 3)]), ("getx", [(0, 3), (0, 3)]), ("putx", [(0, 3), (0, 3)]), ("pair", [(0, 2), (0, 31)]), ("lay", [(0, 31), (0, 2)]),
  ("go", [(0, n - 1)]), ("if", [(0, 3), (0, n - 1)]), ("ask", [(0, 5)]), ("done", [(0, 3), (0, 5)]), ("mark", [(0, 2)]), ("clear", [(0, 2)]), ("rest", [(1, 9)]), ("end", [])]
def numsD : List PyData → List (Int × Int) → Bool
  | [], [] => true
  | d :: ds, b :: bs => numD d b.1 b.2 && numsD ds bs
  | _, _ => false
def rowOkD (n : Int) : PyData → Bool
  | .tuple (.str z :: ds) => match (formsD n).lookup z with
    | some bs => numsD ds bs
    | none => false
  | _ => false
theorem numsD_all : ∀ {ds : List PyData} {bs : List (Int × Int)}, ds.length = bs.length → (∀ (j : Nat) (d : PyData) (b : Int × Int), ds[j]? = some d → bs[j]? = some b → numD d b.1 b.2 = true) → numsD ds bs = true
  | [], [], _, _ => rfl
  | [], _ :: _, h, _ => by simp at h
  | _ :: _, [], h, _ => by simp at h
  | d :: ds, b :: bs, h, g => by
    show (numD d b.1 b.2 && numsD ds bs) = true
    rw [g 0 d b rfl rfl, numsD_all (by simpa using h) (fun j d b h1 h2 => g (j + 1) d b h1 h2)]
    rfl
theorem numsD_no : ∀ {ds : List PyData} {bs : List (Int × Int)} {j : Nat} {d : PyData} {b : Int × Int}, ds[j]? = some d → bs[j]? = some b → numD d b.1 b.2 = false → numsD ds bs = false
  | [], _, _, _, _, h, _, _ => by cases h
  | _ :: _, [], _, _, _, _, h, _ => by cases h
  | d :: ds, b :: bs, 0, d', b', h1, h2, h => by
    cases h1
    cases h2
    show (numD d b.1 b.2 && numsD ds bs) = false
    rw [h]
    rfl
  | d :: ds, b :: bs, j + 1, d', b', h1, h2, h => by
    show (numD d b.1 b.2 && numsD ds bs) = false
    rw [numsD_no (ds := ds) (bs := bs) (j := j) h1 h2 h, Bool.and_false]
theorem numsD_len : ∀ {ds : List PyData} {bs : List (Int × Int)}, ds.length ≠ bs.length → numsD ds bs = false
  | [], [], h => absurd rfl h
  | [], _ :: _, _ => rfl
  | _ :: _, [], _ => rfl
  | d :: ds, b :: bs, h => by
    show (numD d b.1 b.2 && numsD ds bs) = false
    rw [numsD_len (ds := ds) (bs := bs) (fun z => h (by simp [z])), Bool.and_false]
section
variable {P : Program} {w : World} {K : PySem.W.Frag} {mg : Str → Option Value} {base : Heap} {H H' : Hp}
theorem tyS {v : V} {nm : String} (s : Same H H') (t : TyN K H v nm) : TyN K H' v nm := by
  cases t with
  | non => exact .non
  | bl b => exact .bl b
  | int i => exact .int i
  | str x => exact .str x
  | tup h => exact .tup (Same.tup s h)
  | lst h => exact .lst (s.seq h)
def KindR (K : PySem.W.Frag) (n : Int) (kd : Str) (b : Int × Int) : Prop := (kd = "row" ∧ b = (0, n - 1)) ∨ (kd ≠ "row" ∧ Ent K "BOUNDS" kd [.int b.1, .int b.2])
inductive KindsR (K : PySem.W.Frag) (n : Int) : List Str → List (Int × Int) → Prop
  | nil : KindsR K n [] []
  | cons {kd : Str} {b : Int × Int} {ks : List Str} {bs : List (Int × Int)} (h : KindR K n kd b) (t : KindsR K n ks bs) : KindsR K n (kd :: ks) (b :: bs)
theorem KindsR.len {n : Int} {ks : List Str} {bs : List (Int × Int)} (h : KindsR K n ks bs) : ks.length = bs.length := by
  induction h with
  | nil => rfl
  | cons _ _ ih => rw [List.length_cons, List.length_cons, ih]
theorem KindsR.get {n : Int} {ks : List Str} {bs : List (Int × Int)} (h : KindsR K n ks bs) : ∀ {j : Nat} {kd : Str}, ks[j]? = some kd → ∃ b, bs[j]? = some b ∧ KindR K n kd b := by
  induction h with
  | nil => intro j kd h; cases h
  | cons h _ ih =>
    intro j kd hj
    cases j with
    | zero => cases hj; exact ⟨_, rfl, h⟩
    | succ j => exact ih hj
theorem lookup_mem {α : Type} {z : Str} {x : α} : ∀ {l : List (Str × α)}, l.lookup z = some x → (z, x) ∈ l := fun h => PySem.mem_of_lookup h
theorem lookup_nmem {α : Type} {z : Str} : ∀ {l : List (Str × α)}, l.lookup z = none → z ∉ l.map (·.1)
  | [], _, h => by cases h
  | (y, x) :: r, e, h => by
    have h : z ∈ y :: r.map (·.1) := h
    cases q : (z == y) with
    | true =>
      simp only [List.lookup, q] at e
      cases e
    | false =>
      simp only [List.lookup, q] at e
      rcases List.mem_cons.mp h with z2 | z2
      · rw [z2] at q
        simp at q
      · exact lookup_nmem e z2
theorem forms_ent (T : T w K mg) {n : Int} {z : Str} {bs : List (Int × Int)} (h : (formsD n).lookup z = some bs) : ∃ ks, Ent K "FORMS" z (ks.map V.str) ∧ KindsR K n ks bs := by
  have cell : KindR K n "cell" (0, 3) := .inr ⟨by decide +kernel, T.e_BOUNDS_cell⟩
  have word : KindR K n "word" (0, 999) := .inr ⟨by decide +kernel, T.e_BOUNDS_word⟩
  have addr : KindR K n "address" (0, 31) := .inr ⟨by decide +kernel, T.e_BOUNDS_address⟩
  have frst : KindR K n "first" (0, 2) := .inr ⟨by decide +kernel, T.e_BOUNDS_first⟩
  have work : KindR K n "work" (0, 5) := .inr ⟨by decide +kernel, T.e_BOUNDS_work⟩
  have mark : KindR K n "mark" (0, 2) := .inr ⟨by decide +kernel, T.e_BOUNDS_mark⟩
  have rest : KindR K n "rest" (1, 9) := .inr ⟨by decide +kernel, T.e_BOUNDS_rest⟩
  have row : KindR K n "row" (0, n - 1) := .inl ⟨rfl, rfl⟩
  have hm := lookup_mem h
  unfold formsD at hm
  simp only [List.mem_cons, List.not_mem_nil, or_false, Prod.mk.injEq] at hm
  rcases hm with ⟨rfl, rfl⟩ | ⟨rfl, rfl⟩ | ⟨rfl, rfl⟩ | ⟨rfl, rfl⟩ | ⟨rfl, rfl⟩ | ⟨rfl, rfl⟩ | ⟨rfl, rfl⟩ | ⟨rfl, rfl⟩ | ⟨rfl, rfl⟩ | ⟨rfl, rfl⟩ | ⟨rfl, rfl⟩ | ⟨rfl, rfl⟩ | ⟨rfl, rfl⟩ | ⟨rfl, rfl⟩ | ⟨rfl, rfl⟩ | ⟨rfl, rfl⟩ | ⟨rfl, rfl⟩
  · exact ⟨["cell", "word"], T.e_FORMS_set, .cons cell (.cons word .nil)⟩
  · exact ⟨["cell", "cell"], T.e_FORMS_add, .cons cell (.cons cell .nil)⟩
  · exact ⟨["cell", "cell"], T.e_FORMS_less, .cons cell (.cons cell .nil)⟩
  · exact ⟨["cell", "address"], T.e_FORMS_get, .cons cell (.cons addr .nil)⟩
  · exact ⟨["address", "cell"], T.e_FORMS_put, .cons addr (.cons cell .nil)⟩
  · exact ⟨["cell", "cell"], T.e_FORMS_getx, .cons cell (.cons cell .nil)⟩
  · exact ⟨["cell", "cell"], T.e_FORMS_putx, .cons cell (.cons cell .nil)⟩
  · exact ⟨["first", "address"], T.e_FORMS_pair, .cons frst (.cons addr .nil)⟩
  · exact ⟨["address", "first"], T.e_FORMS_lay, .cons addr (.cons frst .nil)⟩
  · exact ⟨["row"], T.e_FORMS_go, .cons row .nil⟩
  · exact ⟨["cell", "row"], T.e_FORMS_if, .cons cell (.cons row .nil)⟩
  · exact ⟨["work"], T.e_FORMS_ask, .cons work .nil⟩
  · exact ⟨["cell", "work"], T.e_FORMS_done, .cons cell (.cons work .nil)⟩
  · exact ⟨["mark"], T.e_FORMS_mark, .cons mark .nil⟩
  · exact ⟨["mark"], T.e_FORMS_clear, .cons mark .nil⟩
  · exact ⟨["rest"], T.e_FORMS_rest, .cons rest .nil⟩
  · exact ⟨[], T.e_FORMS_end, .nil⟩
def sp_is_rowD (K : PySem.W.Frag) : Sp := fun vs H Q _ => ∃ (v : V) (d : PyData) (n : Int), vs = [v, .int n] ∧ Dp K H v d ∧ Pl 60 d ∧ ∀ H', Same H H' → Q (.bl (rowOkD n d)) H'
theorem ok_is_rowD (T : T w K mg) : FnR P w K mg base CX0 3 (He.ga K "is_row") (sp_is_rowD K) := by
  have F_is_part : FnR P w K mg base CX0 2 _ _ := ok_is_part T
  have F_is_one_of : FnR P w K mg base CX0 2 _ _ := ok_is_one_of T
  obtain ⟨es, en, DF⟩ := T.d_FORMS
  obtain ⟨fd, F⟩ := T.f_is_row
  refine F.r sc_is_row (fun _ _ _ _ _ _ us hl => match us, hl with | [_, _], _ => rfl) (fun vs H Q E h => ?_) (fun cdv A outer s H vs Q E hr h => ?_)
  · obtain ⟨_, _, _, rfl, _⟩ := h
    rfl
  · obtain ⟨v, d, n, rfl, D, pl, q⟩ := h
    have q0 := q H (Same.refl H)
    refine ⟨_, (pss_cons (ps_if (PW.pt (pw_or (pt_not (pt_val (pe_isi (n := "tuple") rfl T.u_isinstance rfl T.u_tuple (pv 0)))) (pw_or (pt_not (pt_truth (pv 0) (fun _ => rfl))) (pw_or (pt_not (pt_val (pe_isi (n := "str") rfl T.u_isinstance rfl T.u_str (pe_ix ix_tup (pv 0) pe_int (fun _ _ => rfl))))) (pw_or1 (pt_cmpR (op_notIn_kd DF) (pe_ix ix_tup (pv 0) pe_int (fun _ _ => rfl)) (pe_glob (v := .ref (He.ga K "FORMS")) rfl T.g_FORMS rfl) rfl))))))
      (pss_one (ps_ret pe_bl))
      pss_nil)
      (pss_cons (ps_set (i := 2) sc_is_row.nd rfl (Or.inl rfl) (pe_ix ix_kdict (pe_glob (v := .ref (He.ga K "FORMS")) rfl T.g_FORMS rfl) (pe_ix ix_tup (pv 0) pe_int (fun _ _ => rfl)) (fun _ _ => rfl)))
      (pss_cons (ps_if (pt_cmpR op_ne (pe_callB call_len_seq rfl T.u_len PySem.boot_len (pa_cons (pv 0) pa_nil)) (pe_op op_add (pe_callB call_len_seq rfl T.u_len PySem.boot_len (pa_cons (pv 2) pa_nil)) pe_int) (nomark _))
      (pss_one (ps_ret pe_bl))
      pss_nil)
      (pss_cons (ps_for PassesOwn.never rfl (RZ.pi_zipA rfl T.u_zip (pa_cons (pe_slice sl_tup (pv 0) (po_some pe_int) po_none) (pa_cons (pv 2) pa_nil))) (pg_tup rfl (pgs_cons (pg_name (i := 3) sc_is_row.nd rfl (Or.inl rfl)) (pgs_cons (pg_name (i := 4) sc_is_row.nd rfl (Or.inl rfl)) pgs_nil)))
      (pss_cons (ps_set (i := 5) sc_is_row.nd rfl (Or.inl rfl) (pe_ifExp (pt_cmpR op_eq (pv 4) pe_str (nomark _)) (pe_callR F_is_one_of (hr.mono (by decide)) rfl T.g_is_one_of T.k_is_one_of (pa_cons (pv 3) (pa_cons (pv 1) pa_nil))) (pe_callR F_is_part (hr.mono (by decide)) rfl T.g_is_part T.k_is_part (pa_cons (pv 3) (pa_cons (pv 4) pa_nil)))))
      (pss_one (ps_if (pt_not (pt_val (pv 5)))
      (pss_one (ps_ret pe_bl))
      pss_nil))))
      (pss_one (ps_ret pe_bl)))))), ?_⟩
    cases pl with
    | non n => cases D; exact ⟨_, rfl, rfl, _, .non, _, rfl, iteT (iteT q0)⟩
    | bl n b => cases D; exact ⟨_, rfl, rfl, _, .bl _, _, rfl, iteT (iteT q0)⟩
    | int n i => cases D; exact ⟨_, rfl, rfl, _, .int _, _, rfl, iteT (iteT q0)⟩
    | str n h => cases D; exact ⟨_, rfl, rfl, _, .str _, _, rfl, iteT (iteT q0)⟩
    | tup m a =>
      cases D with
      | tup ht hds =>
        refine ⟨_, rfl, rfl, _, .tup ht, _, rfl, iteF ?_⟩
        cases hds with
        | nil => exact ⟨_, rfl, false, .inr (.inl ⟨_, ht, rfl⟩), iteT (iteT q0)⟩
        | cons d1 hds =>
          rename_i v1 vs a1 ds
          refine ⟨_, rfl, true, .inr (.inl ⟨_, ht, rfl⟩), iteF ?_⟩
          have p1 := a a1 (by simp)
          obtain ⟨nm1, t1⟩ := p1.ty d1
          refine ⟨_, rfl, _, _, _, _, rfl, rfl, ht, at0 _ _, rfl, _, t1, _, rfl, ?_⟩
          cases p1 with
          | non n => cases d1; cases t1; exact iteT (iteT q0)
          | bl n b => cases d1; cases t1; exact iteT (iteT q0)
          | int n i => cases d1; cases t1; exact iteT (iteT q0)
          | tup n _ => cases d1; cases t1 <;> exact iteT (iteT q0)
          | str m2 hz =>
            rename_i z
            cases d1
            cases t1
            refine iteF ?_
            have keyL : (formsD n).map (·.1) = (["set", "add", "less", "get", "put", "getx", "putx", "pair", "lay", "go", "if", "ask", "done", "mark", "clear", "rest", "end"] : List Str) := rfl
            cases hl : (formsD n).lookup z with
            | none =>
              have e1 : PySem.W.nsIn K (He.ga K "FORMS") z = some none := T.x_keys_FORMS z (by rw [← keyL]; exact lookup_nmem hl)
              have er : rowOkD n (.tuple (.str z :: ds)) = false := by
                show (match (formsD n).lookup z with | some bs => numsD ds bs | none => false) = false
                rw [hl]
              rw [er] at q0
              exact ⟨_, rfl, _, _, _, _, rfl, rfl, ht, at0 _ _, z, _, rfl, rfl, e1, _, rfl, iteT q0⟩
            | some bs =>
              have er : rowOkD n (.tuple (.str z :: ds)) = numsD ds bs := by
                show (match (formsD n).lookup z with | some bs => numsD ds bs | none => false) = _
                rw [hl]
              rw [er] at q q0
              obtain ⟨ks, ⟨fp, e1, e2⟩, KR⟩ := forms_ent T hl
              refine ⟨_, rfl, _, _, _, _, rfl, rfl, ht, at0 _ _, z, _, rfl, rfl, e1, _, rfl, iteF ?_⟩
              refine ⟨_, rfl, _, _, _, _, rfl, rfl, ht, at0 _ _, _, z, .ref fp, rfl, rfl, ⟨es, en, _, DF.at_, DF.lit, e1, rfl⟩, ?_⟩ -- form = FORMS[row[0]]
              refine ⟨_, rfl, _, _, rfl, .inr ht, ?_⟩ -- len
              refine ⟨_, rfl, _, _, rfl, .inr (e2 _), _, _, rfl, rfl, ?_⟩ -- len(form) + 1
              refine ⟨rfl, _, rfl, ?_⟩
              have hat := dpAll_at hds
              have l1 : vs.length = ds.length := hat.1
              have l2 := KR.len
              by_cases cl : ds.length = bs.length
              · have el : ((V.str z :: vs).length : Int) = ((ks.map V.str).length : Int) + 1 := by simp [l1, l2, cl]
                rw [dec_int', el, decide_eq_true rfl]
                refine iteF ?_
                refine ⟨_, rfl, _, rfl, _, _, rfl, ht, ?_, fun sp hsp => ?_⟩ -- slice row[1:]
                · rw [List.length_cons, sIx1]
                  exact fun z => absurd z.1 (by decide)
                rw [cut1]
                refine ⟨_, rfl, ?_⟩ -- form
                have s1 : Same H (upd H sp (.tup vs)) := Same.new (Same.refl H) hsp
                refine ⟨sp, fp, vs, ks.map V.str, rfl, .inr ⟨.inl (.inl upd_same), e2 _, RZ.for_zipT (by rw [List.length_map]; omega) (fun i σ H2 => ∃ v3 v4 v5, σ = [some (.ref _), some (.int n), some (.ref fp), v3, v4, v5] ∧ Same H H2 ∧ H2 sp = some (.tup vs) ∧ ∀ (j : Nat) (d : PyData) (b : Int × Int), j < i → ds[j]? = some d → bs[j]? = some b → numD d b.1 b.2 = true)
                  ⟨none, none, none, rfl, s1, upd_same, fun j d b hj => absurd hj (Nat.not_lt_zero j)⟩ (fun i σ H2 ⟨_, _, _, _, _, h, _⟩ => ⟨.inl (.inl h), e2 _⟩) ?_ ?_⟩⟩
                · rintro i x y tt σ H2 hx hy ⟨v3, v4, v5, rfl, s2, h2, good⟩ htt
                  rw [List.getElem?_map] at hy
                  cases hp : ks[i]? with
                  | none => rw [hp] at hy; cases hy
                  | some kd =>
                    rw [hp] at hy
                    cases hy
                    obtain ⟨b, hb, kr⟩ := KR.get hp
                    have li := (List.getElem?_eq_some_iff.mp hx).1
                    obtain ⟨d, hd⟩ : ∃ d, ds[i]? = some d := ⟨_, List.getElem?_eq_getElem (by omega)⟩
                    have Dx := hat.2 i x d hx hd
                    have pd := a d (List.mem_cons_of_mem _ (List.mem_of_getElem? hd))
                    obtain ⟨nm, tx⟩ := pd.ty Dx
                    have s3 : Same H (upd H2 tt (.tup [x, .str kd])) := s2.trans (Same.new (Same.refl H2) htt)
                    have h3 : upd H2 tt (.tup [x, .str kd]) sp = some (.tup vs) := by rw [upd_ne (ne_of_none h2 htt)]; exact h2
                    have tx3 : TyN K (upd H2 tt (.tup [x, .str kd])) x nm := tyS s3 tx
                    refine ⟨tt, _, rfl, .inl (.inl upd_same), rfl, _, _, rfl, _, _, rfl, rfl, ?_⟩
                    have via : ∀ {te : TE} {σ : L2.St} {Hx : Hp} {Q : VK}, (∀ Q' : VK, Q' (.bl (numD d b.1 b.2)) Hx → te σ Hx Q') → Q (.bl (numD d b.1 b.2)) Hx → te σ Hx Q := fun h q => h _ q
                    refine via (te := tIf (tTest (tOp rEq (tVar 4) (tC (.str "row")))) (tCallR (sp_is_one_of K) (tCons (tVar 3) (tCons (tVar 1) tNil))) (tCallR (sp_is_part K) (tCons (tVar 3) (tCons (tVar 4) tNil)))) (fun Q' k => ?_) ?_
                    · refine ⟨_, rfl, rfl, _, rfl, ?_⟩
                      rw [dec_str]
                      rcases kr with ⟨g, eb⟩ | ⟨g, en'⟩
                      · rw [decide_eq_true g]
                        refine iteT ?_
                        refine ⟨_, rfl, _, rfl, _, _, nm, rfl, tx3, ?_⟩
                        rw [num_dp 0 (n - 1) Dx]
                        rw [eb] at k
                        exact k
                      · rw [decide_eq_false g]
                        refine iteF ?_
                        refine ⟨_, rfl, _, rfl, _, _, b.1, b.2, nm, rfl, en', tx3, ?_⟩
                        rw [num_dp b.1 b.2 Dx]
                        exact k
                    · refine ⟨_, rfl, _, rfl, ?_⟩
                      cases hn : numD d b.1 b.2 with
                      | true =>
                        refine iteF ⟨_, _, _, rfl, s3, h3, fun j d' b' hj hd' hb' => ?_⟩
                        by_cases c : j = i
                        · subst c
                          rw [hd] at hd'
                          rw [hb] at hb'
                          cases hd'
                          cases hb'
                          exact hn
                        · exact good j d' b' (by omega) hd' hb'
                      | false =>
                        have q3 := q _ s3
                        rw [numsD_no hd hb hn] at q3
                        exact iteT q3
                · rintro σ H2 ⟨v3, v4, v5, rfl, s2, h2, good⟩
                  have q3 := q _ s2
                  rw [numsD_all cl (fun j d b h1 h2 => good j d b (by rw [l1]; exact (List.getElem?_eq_some_iff.mp h1).1) h1 h2)] at q3
                  exact q3
              · rw [numsD_len cl] at q0
                have el : ((V.str z :: vs).length : Int) ≠ ((ks.map V.str).length : Int) + 1 := by simp [l1, l2]; omega
                rw [dec_int', decide_eq_false el]
                exact iteT q0
end
end SB

set_option Elab.async false
set_option linter.all false
set_option maxRecDepth 100000
set_option maxHeartbeats 1000000
namespace SB
open PySem L2 StX
def badRow (ds : List PyData) (k : Nat) : Bool := decide (39 < k) || !rowOkD (ds.length : Int) (ds.getD k .none)
def firstRow : PyData → Option Nat
  | .tuple [] => some 0
  | .tuple ds => (List.range ds.length).find? (badRow ds)
  | _ => some 0
theorem find_range {p : Nat → Bool} : ∀ {n : Nat}, ((List.range n).find? p = none → ∀ k, k < n → p k = false) ∧ ∀ i, (List.range n).find? p = some i → i < n ∧ p i = true ∧ ∀ k, k < i → p k = false
  | 0 => ⟨fun _ k h => by omega, fun i h => by simp at h⟩
  | n + 1 => by
    obtain ⟨h1, h2⟩ := find_range (p := p) (n := n)
    rw [List.range_succ, List.find?_append]
    cases q : (List.range n).find? p with
    | none =>
      have h1 := h1 q
      refine ⟨fun h k hk => ?_, fun i h => ?_⟩
      · by_cases c : k = n
        · subst c
          cases hp : p k with
          | false => rfl
          | true => simp [hp] at h
        · exact h1 k (by omega)
      · cases hp : p n with
        | false => simp [hp] at h
        | true =>
          simp [hp] at h
          subst h
          exact ⟨by omega, hp, h1⟩
    | some j =>
      obtain ⟨a1, a2, a3⟩ := h2 j q
      refine ⟨fun h => by simp at h, fun i h => ?_⟩
      have e : j = i := by simpa using h
      subst e
      exact ⟨by omega, a2, a3⟩
theorem firstRow_le {d : PyData} {i : Nat} (h : firstRow d = some i) : i ≤ 40 := by
  unfold firstRow at h
  split at h
  · cases h; omega
  · obtain ⟨h1, _, h3⟩ := find_range.2 i h
    rcases Nat.lt_or_ge 40 i with c | c
    · have := h3 40 c
      unfold badRow at this
      rw [decide_eq_true (show 39 < 40 by decide)] at this
      cases this
    · exact c
  · cases h; omega
theorem short_all01 : ∀ n : Fin 41, (decide (((n.val : Nat) : Int).natAbs.log2 < 1920) && decide ((("row " : Str) ++ Str.ofString (toString ((n.val : Nat) : Int)) ++ (" of the program can't be" : Str)).length ≤ 100)) = true := by decide +kernel
theorem short01 {n : Nat} (h : n ≤ 40) : ShortIn "row " " of the program can't be" (n : Int) := by
  have h := short_all01 ⟨n, by omega⟩
  rw [Bool.and_eq_true, decide_eq_true_eq, decide_eq_true_eq] at h
  exact ⟨h.1, Nat.le_trans h.2 (by decide)⟩
theorem short02 : ShortIn "work " " can't be" 0 := ⟨by decide +kernel, Nat.le_trans (show (("work " : Str) ++ Str.ofString (toString (0 : Int)) ++ (" can't be" : Str)).length ≤ 100 by decide +kernel) (by decide)⟩
structure ProgT (P : Program) (K : PySem.W.Frag) (mg : Str → Option Value) : Prop where
  prog : ∃ fI, PySem.BadX.BadTxt P K mg "BadProgram" "at" "row " " of the program can't be" (He.ga K "BadProgram") fI (He.ga K "BeatError")
  work : ∃ fI, PySem.BadX.BadTxt P K mg "BadWorks" "at" "work " " can't be" (He.ga K "BadWorks") fI (He.ga K "BeatError")
section
variable {P : Program} {w : World} {K : PySem.W.Frag} {mg : Str → Option Value} {base : Heap} {H H' : Hp}
def sp_check_programD (K : PySem.W.Frag) : Sp := fun vs H Q E => ∃ (v : V) (d : PyData), vs = [v] ∧ Dp K H v d ∧ Pl 61 d ∧ (firstRow d = none → ∀ H', Same H H' → Q .non H') ∧ ∀ i, firstRow d = some i → tBad (He.ga K "BadProgram") (i : Int) E H
theorem ok_check_programD (T : T w K mg) (PT : ProgT P K mg) : FnR P w K mg base (L2.CX P w) 4 (He.ga K "check_program") (sp_check_programD K) := by
  have F_is_row : FnR P w K mg base CX0 3 _ _ := ok_is_rowD T
  obtain ⟨t1, g_MOST_ROWS⟩ := T.i_MOST_ROWS
  obtain ⟨fI, BT⟩ := PT.prog
  obtain ⟨fd, F⟩ := T.f_check_program
  refine F.rX sc_check_program (fun _ _ _ _ _ _ us hl => match us, hl with | [_], _ => rfl) (fun vs H Q E h => ?_) (fun cdv A outer s H vs Q E hr h => ?_)
  · obtain ⟨_, _, rfl, _⟩ := h
    rfl
  · obtain ⟨v, d, rfl, D, pl, q1, q2⟩ := h
    have tk := takes_of (X := cxOf (L2.CX P w) P w K mg base ["program", "at", "row"] "check_program" (defScope s_check_program) (He.ga K "check_program") cdv A outer s H E) (E := E) rfl rfl rfl rfl
    refine ⟨_, (pss_cons (ps_if (PW.pt (pw_or (pt_not (pt_val (pe_isi (n := "tuple") rfl T.u_isinstance rfl T.u_tuple (pv 0)))) (pw_or1 (pt_not (pt_truth (pv 0) (fun _ => rfl))))))
      (pss_one (ps_raise rfl tk (pmk_bad BT hr (pa_cons pe_int pa_nil) rfl (by decide))))
      pss_nil)
      (pss_one (ps_for (passes_of rfl) rfl (pi_enumT rfl T.u_enumerate (pa_cons (pv 0) pa_nil)) (pg_tup rfl (pgs_cons (pg_name (i := 1) sc_check_program.nd rfl (Or.inl rfl)) (pgs_cons (pg_name (i := 2) sc_check_program.nd rfl (Or.inl rfl)) pgs_nil)))
      (pss_one (ps_if (PW.pt (pw_or (pt_cmpR op_eq (pv 1) (pe_glob (v := .int 40) rfl g_MOST_ROWS ⟨_, rfl⟩) (nomark _)) (pw_or1 (pt_not (pt_val (pe_callR F_is_row (hr.mono (by decide)) rfl T.g_is_row T.k_is_row (pa_cons (pv 2) (pa_cons (pe_callB call_len_seq rfl T.u_len PySem.boot_len (pa_cons (pv 0) pa_nil)) pa_nil))))))))
      (pss_one (ps_raise rfl tk (pmk_bad BT hr (pa_cons (pv 1) pa_nil) rfl (by decide))))
      pss_nil))))), ?_⟩
    have bad0 : firstRow d = some 0 → ∀ D', tMkBad (He.ga K "BadProgram") "row " " of the program can't be" (tCons (tC (.int 0)) tNil) D' H E := fun h D' => ⟨0, rfl, short01 (n := 0) (by decide), fun de nd => q2 0 h _ _ upd_same (Same.new (Same.refl _) nd)⟩
    cases pl with
    | non n => cases D; exact ⟨_, rfl, rfl, _, .non, _, rfl, iteT (iteT (bad0 rfl _))⟩
    | bl n b => cases D; exact ⟨_, rfl, rfl, _, .bl _, _, rfl, iteT (iteT (bad0 rfl _))⟩
    | int n i => cases D; exact ⟨_, rfl, rfl, _, .int _, _, rfl, iteT (iteT (bad0 rfl _))⟩
    | str n h => cases D; exact ⟨_, rfl, rfl, _, .str _, _, rfl, iteT (iteT (bad0 rfl _))⟩
    | tup m a =>
      cases D with
      | tup ht hds =>
        rename_i ds pa vs
        refine ⟨_, rfl, rfl, _, .tup ht, _, rfl, iteF ?_⟩
        have hat := dpAll_at hds
        cases hv : vs with
        | nil =>
          subst hv
          cases hds
          exact ⟨_, rfl, false, .inr (.inl ⟨_, ht, rfl⟩), iteT (bad0 rfl _)⟩
        | cons v1 vr =>
          refine ⟨_, rfl, true, .inr (.inl ⟨_, ht, by rw [hv]; rfl⟩), iteF ?_⟩
          have ne : ds ≠ [] := fun z => by rw [z, hv] at hat; exact absurd hat.1 (by simp)
          have fr : firstRow (.tuple ds) = (List.range ds.length).find? (badRow ds) := by
            cases ds with
            | nil => exact absurd rfl ne
            | cons _ _ => rfl
          rw [fr] at q1 q2
          clear hv bad0
          refine ⟨_, rfl, pa, vs, rfl, ht, for_it walk_enumT (fun i σ H2 => ∃ (v1 v2 : Option V), σ = [some (.ref pa), v1, v2] ∧ Same H H2 ∧ ∀ j, j < i → badRow ds j = false) ⟨none, none, rfl, Same.refl H, fun j hj => absurd hj (Nat.not_lt_zero j)⟩ (fun i σ H2 _ ⟨_, _, _, s2, _⟩ => Same.tup s2 ht) ?_ ?_⟩
          · rintro i x σ H2 H3 hi ⟨v1, v2, rfl, s2, good⟩ ⟨t, y, z, rfl, hty, rfl, e1, e2⟩
            cases e1
            have hi2 : i < ds.length := by rw [← hat.1]; exact hi
            obtain ⟨d1, hd⟩ : ∃ d, ds[i]? = some d := ⟨_, List.getElem?_eq_getElem hi2⟩
            have e2 : vs[i]? = some z := e2
            have Dz := hat.2 i z d1 e2 hd
            have pz := a d1 (List.mem_of_getElem? hd)
            have s3 : Same H (upd H2 t (.tup [.int (i : Int), z])) := s2.trans (Same.new (Same.refl H2) hty)
            have e0 : badRow ds i = (decide (39 < i) || !rowOkD (ds.length : Int) d1) := by
              unfold badRow
              rw [List.getD, hd]
              rfl
            have bad : badRow ds i = true → ∀ D' H4, Same H H4 → tMkBad (He.ga K "BadProgram") "row " " of the program can't be" (tCons (tVar 1) tNil) [some (.ref pa), some (.int (i : Int)), D'] H4 E := fun h D' H4 s4 => by
              have hf : (List.range ds.length).find? (badRow ds) = some i := by
                cases q : (List.range ds.length).find? (badRow ds) with
                | none => rw [find_range.1 q i hi2] at h; cases h
                | some j =>
                  obtain ⟨j1, j2, j3⟩ := find_range.2 j q
                  by_cases c : i < j
                  · rw [j3 i c] at h; cases h
                  · by_cases c2 : j < i
                    · rw [good j c2] at j2; cases j2
                    · have : i = j := by omega
                      rw [this]
              have h40 : i ≤ 40 := firstRow_le (fr.trans hf)
              exact ⟨_, rfl, (i : Int), rfl, short01 h40, fun de nd => q2 i hf _ _ upd_same (s4.trans (Same.new (Same.refl _) nd))⟩
            refine ⟨t, _, rfl, .inl (.inl upd_same), rfl, _, _, rfl, _, _, rfl, rfl, ?_⟩
            refine ⟨_, rfl, rfl, _, rfl, ?_⟩
            rw [dec_int']
            by_cases c40 : i = 40
            · rw [decide_eq_true (by omega)]
              refine iteT (iteT (bad ?_ _ _ s3))
              rw [e0, decide_eq_true (by omega)]
              rfl
            · rw [decide_eq_false (by omega)]
              refine iteF ?_
              have i39 : i ≤ 39 := by
                rcases Nat.lt_or_ge 40 i with c | c
                · have := good 40 c
                  unfold badRow at this
                  rw [decide_eq_true (show 39 < 40 by decide)] at this
                  cases this
                · omega
              refine ⟨_, rfl, _, rfl, _, _, rfl, .inr (Same.tup s3 ht), z, d1, _, rfl, dpS s3 Dz, pz, fun H4 s4 => ?_⟩
              rw [hat.1]
              have s34 := s3.trans s4
              refine ⟨_, rfl, ?_⟩
              cases ct : rowOkD (ds.length : Int) d1 with
              | true =>
                refine iteF ⟨_, _, rfl, s34, fun j hj => ?_⟩
                by_cases c : j = i
                · subst c
                  rw [e0, ct, decide_eq_false (by omega)]
                  rfl
                · exact good j (by omega)
              | false =>
                refine iteT (bad ?_ _ _ s34)
                rw [e0, ct]
                exact Bool.or_true _
          · rintro σ H2 ⟨v1, v2, rfl, s2, good⟩
            refine q1 ?_ _ s2
            cases q : (List.range ds.length).find? (badRow ds) with
            | none => rfl
            | some j =>
              obtain ⟨j1, j2, _⟩ := find_range.2 j q
              rw [good j (by rw [hat.1]; exact j1)] at j2
              cases j2
end
end SB

set_option Elab.async false
set_option linter.all false
set_option maxRecDepth 100000
set_option maxHeartbeats 1000000
namespace SB
open PySem L2 StX
section
variable {P : Program} {w : World} {K : PySem.W.Frag} {mg : Str → Option Value} {base : Heap} {H H' : Hp}
theorem tBad.same {C : Addr} {n : Int} {E : XK} (t : tBad C n E H) (s : Same H H') : tBad C n E H' := fun H2 d h s2 => t H2 d h (s.trans s2)
structure Door (K : PySem.W.Frag) (d : PyData) (E : XK) (H : Hp) : Prop where
  work : firstRow d = none → tBad (He.ga K "BadWorks") 0 E H
  prog : ∀ i, firstRow d = some i → tBad (He.ga K "BadProgram") (i : Int) E H
theorem Door.same {d : PyData} {E : XK} (t : Door K d E H) (s : Same H H') : Door K d E H' := ⟨fun h => (t.work h).same s, fun i h => (t.prog i h).same s⟩
def sp_door (K : PySem.W.Frag) (n : Nat) : Sp := fun vs H Q E => ∃ (v : V) (d : PyData) (wl t : Addr) (rest : List V), vs = v :: .ref wl :: rest ∧ rest.length = n ∧ Dp K H v d ∧ Pl 61 d ∧ H wl = some (.lst [.ref t]) ∧ H t = some (.tup []) ∧ Door K d E H
def sp_doorH (K : PySem.W.Frag) : Sp := fun vs H Q E => ∃ (h : Addr) (us : List V), vs = .ref h :: us ∧ sp_door K 2 us H Q E
def sp_is_work0 (K : PySem.W.Frag) : Sp := fun vs H Q _ => ∃ (t : Addr) (n : Int), vs = [.ref t, .int n] ∧ SqT K H t [] ∧ Q (.bl false) H
theorem ok_is_work0 (T : T w K mg) : FnR P w K mg base CX0 3 (He.ga K "is_work") (sp_is_work0 K) := by
  obtain ⟨fd, F⟩ := T.f_is_work
  refine F.r sc_is_work (fun _ _ _ _ _ _ us hl => match us, hl with | [_, _], _ => rfl) (fun vs H Q E h => ?_) (fun cdv A outer s H vs Q E hr h => ?_)
  · obtain ⟨_, _, rfl, _⟩ := h
    rfl
  · obtain ⟨t, n, rfl, ht, q⟩ := h
    refine ⟨_, (pss_cons (ps_if (PW.pt (pw_or (pt_not (pt_val (pe_isi (n := "tuple") rfl T.u_isinstance rfl T.u_tuple (pv 0)))) (pw_or1 (pt_cmpR op_ne (pe_callB call_len_seq rfl T.u_len PySem.boot_len (pa_cons (pv 0) pa_nil)) pe_int (nomark _)))))
      (pss_one (ps_ret pe_bl))
      pss_nil)
      pss_never), ?_⟩
    refine ⟨_, rfl, rfl, _, .tup ht, _, rfl, iteF ?_⟩
    exact ⟨_, rfl, _, _, rfl, .inr ht, rfl, _, rfl, iteT q⟩
def sp_check_works0 (K : PySem.W.Frag) : Sp := fun vs H Q E => ∃ (wl t : Addr), vs = [.ref wl] ∧ H wl = some (.lst [.ref t]) ∧ H t = some (.tup []) ∧ tBad (He.ga K "BadWorks") 0 E H
theorem ok_check_works0 (T : T w K mg) (PT : ProgT P K mg) : FnR P w K mg base (L2.CX P w) 4 (He.ga K "check_works") (sp_check_works0 K) := by
  have F_is_work : FnR P w K mg base CX0 3 _ _ := ok_is_work0 T
  obtain ⟨t1, g_MOST_WORKS⟩ := T.i_MOST_WORKS
  obtain ⟨fI, BT⟩ := PT.work
  obtain ⟨fd, F⟩ := T.f_check_works
  refine F.rX sc_check_works (fun _ _ _ _ _ _ us hl => match us, hl with | [_], _ => rfl) (fun vs H Q E h => ?_) (fun cdv A outer s H vs Q E hr h => ?_)
  · obtain ⟨_, _, rfl, _⟩ := h
    rfl
  · obtain ⟨wl, tt, rfl, hw, ht, tb⟩ := h
    have tk := takes_of (X := cxOf (L2.CX P w) P w K mg base ["works", "at", "work"] "check_works" (defScope s_check_works) (He.ga K "check_works") cdv A outer s H E) (E := E) rfl rfl rfl rfl
    refine ⟨_, (pss_cons (ps_if (pt_not (pt_val (pe_isi (n := "list") rfl T.u_isinstance rfl T.u_list (pv 0))))
  (pss_one ps_never)
  pss_nil)
  (pss_one (ps_for (passes_of rfl) rfl (pi_enum rfl T.u_enumerate (pa_cons (pv 0) pa_nil)) (pg_tup rfl (pgs_cons (pg_name (i := 1) sc_check_works.nd rfl (Or.inl rfl)) (pgs_cons (pg_name (i := 2) sc_check_works.nd rfl (Or.inl rfl)) pgs_nil)))
  (pss_one (ps_if (PW.pt (pw_or (pt_cmpR op_eq (pv 1) (pe_glob (v := .int 6) rfl g_MOST_WORKS ⟨_, rfl⟩) (nomark _)) (pw_or1 (pt_not (pt_val (pe_callR F_is_work (hr.mono (by decide)) rfl T.g_is_work T.k_is_work (pa_cons (pv 2) (pa_cons (pe_callB call_len_seq rfl T.u_len PySem.boot_len (pa_cons (pv 0) pa_nil)) pa_nil))))))))
  (pss_one (ps_raise rfl tk (pmk_bad BT hr (pa_cons (pv 1) pa_nil) rfl (by decide))))
  pss_nil))))), ?_⟩
    refine ⟨_, rfl, rfl, _, .lst (SqL.of hw), _, rfl, iteF ?_⟩
    refine ⟨_, rfl, wl, [.ref tt], rfl, SqL.of hw, for_it walk_enum (fun i σ H2 => i = 0 ∧ ∃ (v1 v2 : Option V), σ = [some (.ref wl), v1, v2] ∧ Same H H2) ⟨rfl, none, none, rfl, Same.refl H⟩ (fun i σ H2 _ ⟨_, _, _, _, s2⟩ => s2.seq (SqL.of hw)) ?_ ?_⟩
    · rintro i x σ H2 H3 hi ⟨rfl, v1, v2, rfl, s2⟩ ⟨t, y, z, rfl, hty, rfl, e1, e2⟩
      cases e1
      cases e2
      have s3 : Same H (upd H2 t (.tup [.int ((0 : Nat) : Int), .ref tt])) := s2.trans (Same.new (Same.refl H2) hty)
      refine ⟨t, _, rfl, .inl (.inl upd_same), rfl, _, _, rfl, _, _, rfl, rfl, ?_⟩
      refine ⟨_, rfl, rfl, _, rfl, ?_⟩
      rw [dec_int', decide_eq_false (by decide)]
      refine iteF ?_
      refine ⟨_, rfl, _, rfl, _, _, rfl, .inl (SqL.of (s3 _ _ hw)), tt, _, rfl, SqT.of (s3 _ _ ht), ?_⟩
      refine ⟨_, rfl, iteT ?_⟩
      exact ⟨_, rfl, 0, rfl, short02, fun de nd => tb _ _ upd_same (s3.trans (Same.new (Same.refl _) nd))⟩
    · rintro σ H2 ⟨h0, _⟩
      exact absurd (show 1 = 0 from h0) (by decide)

theorem ok_door_check_hall (T : T w K mg) (PT : ProgT P K mg) : FnR P w K mg base (L2.CX P w) 5 (He.ga K "check_hall") (sp_door K 2) := by
  have F_check_program : FnR P w K mg base (L2.CX P w) 4 _ _ := ok_check_programD T PT
  have F_check_works : FnR P w K mg base (L2.CX P w) 4 _ _ := ok_check_works0 T PT
  obtain ⟨fd, F⟩ := T.f_check_hall
  refine F.rX sc_check_hall (fun _ _ _ _ _ _ us hl => match us, hl with | [_, _, _, _], _ => rfl) (fun vs H Q E h => ?_) (fun cdv A outer s H vs Q E hr h => ?_)
  · obtain ⟨_, _, _, _, _, rfl, hl, _⟩ := h
    simp [hl]
  · obtain ⟨v, d, wl, t, rest, rfl, hrl, D, pl, hw, ht, dr⟩ := h
    have tk := takes_of (X := cxOf (L2.CX P w) P w K mg base ["program", "works", "memory", "asks"] "check_hall" (defScope s_check_hall) (He.ga K "check_hall") cdv A outer s H E) (E := E) rfl rfl rfl rfl
    match rest, hrl with
    | [r0, r1], _ =>
      refine ⟨_, (pss_cons (ps_expr (pe_callX (E := E) F_check_program (hr.mono (by decide)) rfl T.g_check_program T.k_check_program (passes_call tk (fun _ _ _ _ h => h)) (pa_cons (pv 0) pa_nil))) (pss_cons (ps_expr (pe_callX (E := E) F_check_works (hr.mono (by decide)) rfl T.g_check_works T.k_check_works (passes_call tk (fun _ _ _ _ h => h)) (pa_cons (pv 1) pa_nil))) pss_never)), ?_⟩
      refine ⟨_, rfl, v, d, rfl, D, pl, fun hn H2 s2 => ?_, fun i hi => dr.prog i hi⟩
      exact ⟨_, rfl, wl, t, rfl, s2 _ _ hw, s2 _ _ ht, (dr.work hn).same s2⟩
theorem ok_door_check_windowed (T : T w K mg) (PT : ProgT P K mg) : FnR P w K mg base (L2.CX P w) 5 (He.ga K "check_windowed") (sp_door K 4) := by
  have F_check_program : FnR P w K mg base (L2.CX P w) 4 _ _ := ok_check_programD T PT
  have F_check_works : FnR P w K mg base (L2.CX P w) 4 _ _ := ok_check_works0 T PT
  obtain ⟨fd, F⟩ := T.f_check_windowed
  refine F.rX sc_check_windowed (fun _ _ _ _ _ _ us hl => match us, hl with | [_, _, _, _, _, _], _ => rfl) (fun vs H Q E h => ?_) (fun cdv A outer s H vs Q E hr h => ?_)
  · obtain ⟨_, _, _, _, _, rfl, hl, _⟩ := h
    simp [hl]
  · obtain ⟨v, d, wl, t, rest, rfl, hrl, D, pl, hw, ht, dr⟩ := h
    have tk := takes_of (X := cxOf (L2.CX P w) P w K mg base ["program", "works", "memory", "work", "low", "high"] "check_windowed" (defScope s_check_windowed) (He.ga K "check_windowed") cdv A outer s H E) (E := E) rfl rfl rfl rfl
    match rest, hrl with
    | [r0, r1, r2, r3], _ =>
      refine ⟨_, (pss_cons (ps_expr (pe_callX (E := E) F_check_program (hr.mono (by decide)) rfl T.g_check_program T.k_check_program (passes_call tk (fun _ _ _ _ h => h)) (pa_cons (pv 0) pa_nil))) (pss_cons (ps_expr (pe_callX (E := E) F_check_works (hr.mono (by decide)) rfl T.g_check_works T.k_check_works (passes_call tk (fun _ _ _ _ h => h)) (pa_cons (pv 1) pa_nil))) pss_never)), ?_⟩
      refine ⟨_, rfl, v, d, rfl, D, pl, fun hn H2 s2 => ?_, fun i hi => dr.prog i hi⟩
      exact ⟨_, rfl, wl, t, rfl, s2 _ _ hw, s2 _ _ ht, (dr.work hn).same s2⟩
theorem ok_door_check_ahead (T : T w K mg) (PT : ProgT P K mg) : FnR P w K mg base (L2.CX P w) 5 (He.ga K "check_ahead") (sp_door K 1) := by
  have F_check_program : FnR P w K mg base (L2.CX P w) 4 _ _ := ok_check_programD T PT
  have F_check_works : FnR P w K mg base (L2.CX P w) 4 _ _ := ok_check_works0 T PT
  obtain ⟨fd, F⟩ := T.f_check_ahead
  refine F.rX sc_check_ahead (fun _ _ _ _ _ _ us hl => match us, hl with | [_, _, _], _ => rfl) (fun vs H Q E h => ?_) (fun cdv A outer s H vs Q E hr h => ?_)
  · obtain ⟨_, _, _, _, _, rfl, hl, _⟩ := h
    simp [hl]
  · obtain ⟨v, d, wl, t, rest, rfl, hrl, D, pl, hw, ht, dr⟩ := h
    have tk := takes_of (X := cxOf (L2.CX P w) P w K mg base ["program", "works", "asks"] "check_ahead" (defScope s_check_ahead) (He.ga K "check_ahead") cdv A outer s H E) (E := E) rfl rfl rfl rfl
    match rest, hrl with
    | [r0], _ =>
      refine ⟨_, (pss_cons (ps_expr (pe_callX (E := E) F_check_program (hr.mono (by decide)) rfl T.g_check_program T.k_check_program (passes_call tk (fun _ _ _ _ h => h)) (pa_cons (pv 0) pa_nil))) (pss_cons (ps_expr (pe_callX (E := E) F_check_works (hr.mono (by decide)) rfl T.g_check_works T.k_check_works (passes_call tk (fun _ _ _ _ h => h)) (pa_cons (pv 1) pa_nil))) pss_never)), ?_⟩
      refine ⟨_, rfl, v, d, rfl, D, pl, fun hn H2 s2 => ?_, fun i hi => dr.prog i hi⟩
      exact ⟨_, rfl, wl, t, rfl, s2 _ _ hw, s2 _ _ ht, (dr.work hn).same s2⟩
theorem ok_door_spread (T : T w K mg) (PT : ProgT P K mg) : FnR P w K mg base (L2.CX P w) 5 (He.ga K "spread") (sp_door K 3) := by
  have F_check_program : FnR P w K mg base (L2.CX P w) 4 _ _ := ok_check_programD T PT
  have F_check_works : FnR P w K mg base (L2.CX P w) 4 _ _ := ok_check_works0 T PT
  obtain ⟨fd, F⟩ := T.f_spread
  refine F.rX sc_spread (fun _ _ _ _ _ _ us hl => match us, hl with | [_, _, _, _, _], _ => rfl) (fun vs H Q E h => ?_) (fun cdv A outer s H vs Q E hr h => ?_)
  · obtain ⟨_, _, _, _, _, rfl, hl, _⟩ := h
    simp [hl]
  · obtain ⟨v, d, wl, t, rest, rfl, hrl, D, pl, hw, ht, dr⟩ := h
    have tk := takes_of (X := cxOf (L2.CX P w) P w K mg base ["program", "works", "work", "low", "high", "told", "when", "row", "beats"] "spread" (defScope s_spread) (He.ga K "spread") cdv A outer s H E) (E := E) rfl rfl rfl rfl
    match rest, hrl with
    | [r0, r1, r2], _ =>
      refine ⟨_, (pss_cons (ps_expr (pe_callX (E := E) F_check_program (hr.mono (by decide)) rfl T.g_check_program T.k_check_program (passes_call tk (fun _ _ _ _ h => h)) (pa_cons (pv 0) pa_nil))) (pss_cons (ps_expr (pe_callX (E := E) F_check_works (hr.mono (by decide)) rfl T.g_check_works T.k_check_works (passes_call tk (fun _ _ _ _ h => h)) (pa_cons (pv 1) pa_nil))) pss_never)), ?_⟩
      refine ⟨_, rfl, v, d, rfl, D, pl, fun hn H2 s2 => ?_, fun i hi => dr.prog i hi⟩
      exact ⟨_, rfl, wl, t, rfl, s2 _ _ hw, s2 _ _ ht, (dr.work hn).same s2⟩
theorem ok_door_Hall_init (T : T w K mg) (PT : ProgT P K mg) : FnR P w K mg base (L2.CX P w) 6 (He.ma K (He.ga K "Hall") "__init__") (sp_doorH K) := by
  have F_c : FnR P w K mg base (L2.CX P w) 5 _ _ := ok_door_check_hall T PT
  obtain ⟨fd, F⟩ := T.f_Hall_init
  refine F.rX sc_Hall_init (fun _ _ _ _ _ _ us hl => match us, hl with | [_, _, _, _, _], _ => rfl) (fun vs H Q E h => ?_) (fun cdv A outer s H vs Q E hr h => ?_)
  · obtain ⟨_, _, rfl, _, _, _, _, _, rfl, hl, _⟩ := h
    simp [hl]
  · obtain ⟨hh, us, rfl, v, d, wl, t, rest, rfl, hrl, D, pl, hw, ht, dr⟩ := h
    have tk := takes_of (X := cxOf (L2.CX P w) P w K mg base ["self", "program", "works", "memory", "asks"] "Hall.__init__" (defScope s_Hall_init) (He.ma K (He.ga K "Hall") "__init__") cdv A outer s H E) (E := E) rfl rfl rfl rfl
    match rest, hrl with
    | [r0, r1], _ =>
      refine ⟨_, (pss_cons (ps_expr (pe_callX (E := E) F_c (hr.mono (by decide)) rfl T.g_check_hall T.k_check_hall (passes_call tk (fun _ _ _ _ h => h)) (pa_cons (pv 1) (pa_cons (pv 2) (pa_cons (pv 3) (pa_cons (pv 4) pa_nil)))))) pss_never), ?_⟩
      exact ⟨_, rfl, _, rfl, _, rfl, _, rfl, v, d, wl, t, [r0, r1], rfl, rfl, D, pl, hw, ht, dr⟩
theorem ok_door_run (T : T w K mg) (PT : ProgT P K mg) : FnR P w K mg base (L2.CX P w) 8 (He.ga K "run") (sp_door K 3) := by
  have F_c : FnR P w K mg base (L2.CX P w) 6 _ _ := ok_door_Hall_init T PT
  obtain ⟨fd, F⟩ := T.f_run
  refine F.rX sc_run (fun _ _ _ _ _ _ us hl => match us, hl with | [_, _, _, _, _], _ => rfl) (fun vs H Q E h => ?_) (fun cdv A outer s H vs Q E hr h => ?_)
  · obtain ⟨_, _, _, _, _, rfl, hl, _⟩ := h
    simp [hl]
  · obtain ⟨v, d, wl, t, rest, rfl, hrl, D, pl, hw, ht, dr⟩ := h
    have tk := takes_of (X := cxOf (L2.CX P w) P w K mg base ["program", "works", "memory", "asks", "beats", "hall", "told", "done"] "run" (defScope s_run) (He.ga K "run") cdv A outer s H E) (E := E) rfl rfl rfl rfl
    match rest, hrl with
    | [r0, r1, r2], _ =>
      refine ⟨_, (pss_cons (ps_set (i := 5) sc_run.nd rfl (Or.inr rfl) (pe_makeR (E := E) T.mk_Hall F_c (hr.mono (by decide)) rfl T.g_Hall (passes_call tk (fun _ _ _ _ h => h)) (pa_cons (pv 0) (pa_cons (pv 1) (pa_cons (pv 2) (pa_cons (pv 3) pa_nil)))))) pss_never), ?_⟩
      refine ⟨_, rfl, _, rfl, _, rfl, _, rfl, fun hh dh nh ndh neh => ?_⟩
      have s1 : Same H (upd (upd H dh (.own hh)) hh (.ins (He.ga K "Hall") dh [])) := fun b o e => by
        rw [upd_ne (ne_of_none e nh), upd_ne (ne_of_none e ndh)]
        exact e
      exact ⟨hh, _, rfl, v, d, wl, t, [r0, r1], rfl, rfl, dpS s1 D, pl, s1 _ _ hw, s1 _ _ ht, dr.same s1⟩
theorem ok_door_judged (T : T w K mg) (PT : ProgT P K mg) : FnR P w K mg base (L2.CX P w) 8 (He.ga K "judged") (sp_door K 3) := by
  have F_c : FnR P w K mg base (L2.CX P w) 6 _ _ := ok_door_Hall_init T PT
  obtain ⟨fd, F⟩ := T.f_judged
  refine F.rX sc_judged (fun _ _ _ _ _ _ us hl => match us, hl with | [_, _, _, _, _], _ => rfl) (fun vs H Q E h => ?_) (fun cdv A outer s H vs Q E hr h => ?_)
  · obtain ⟨_, _, _, _, _, rfl, hl, _⟩ := h
    simp [hl]
  · obtain ⟨v, d, wl, t, rest, rfl, hrl, D, pl, hw, ht, dr⟩ := h
    have tk := takes_of (X := cxOf (L2.CX P w) P w K mg base ["program", "works", "memory", "asks", "log", "hall", "at", "beat"] "judged" (defScope s_judged) (He.ga K "judged") cdv A outer s H E) (E := E) rfl rfl rfl rfl
    match rest, hrl with
    | [r0, r1, r2], _ =>
      refine ⟨_, (pss_cons (ps_set (i := 5) sc_judged.nd rfl (Or.inl rfl) (pe_makeR (E := E) T.mk_Hall F_c (hr.mono (by decide)) rfl T.g_Hall (passes_call tk (fun _ _ _ _ h => h)) (pa_cons (pv 0) (pa_cons (pv 1) (pa_cons (pv 2) (pa_cons (pv 3) pa_nil)))))) pss_never), ?_⟩
      refine ⟨_, rfl, _, rfl, _, rfl, _, rfl, fun hh dh nh ndh neh => ?_⟩
      have s1 : Same H (upd (upd H dh (.own hh)) hh (.ins (He.ga K "Hall") dh [])) := fun b o e => by
        rw [upd_ne (ne_of_none e nh), upd_ne (ne_of_none e ndh)]
        exact e
      exact ⟨hh, _, rfl, v, d, wl, t, [r0, r1], rfl, rfl, dpS s1 D, pl, s1 _ _ hw, s1 _ _ ht, dr.same s1⟩
theorem ok_door_torns (T : T w K mg) (PT : ProgT P K mg) : FnR P w K mg base (L2.CX P w) 6 (He.ga K "torns") (sp_door K 3) := by
  have F_c : FnR P w K mg base (L2.CX P w) 5 _ _ := ok_door_check_hall T PT
  obtain ⟨fd, F⟩ := T.f_torns
  refine F.rX sc_torns (fun _ _ _ _ _ _ us hl => match us, hl with | [_, _, _, _, _], _ => rfl) (fun vs H Q E h => ?_) (fun cdv A outer s H vs Q E hr h => ?_)
  · obtain ⟨_, _, _, _, _, rfl, hl, _⟩ := h
    simp [hl]
  · obtain ⟨v, d, wl, t, rest, rfl, hrl, D, pl, hw, ht, dr⟩ := h
    have tk := takes_of (X := cxOf (L2.CX P w) P w K mg base ["program", "works", "memory", "asks", "beats"] "torns" (defScope s_torns) (He.ga K "torns") cdv A outer s H E) (E := E) rfl rfl rfl rfl
    match rest, hrl with
    | [r0, r1, r2], _ =>
      refine ⟨_, (pss_cons (ps_expr (pe_callX (E := E) F_c (hr.mono (by decide)) rfl T.g_check_hall T.k_check_hall (passes_call tk (fun _ _ _ _ h => h)) (pa_cons (pv 0) (pa_cons (pv 1) (pa_cons (pv 2) (pa_cons (pv 3) pa_nil)))))) pss_never), ?_⟩
      exact ⟨_, rfl, _, rfl, _, rfl, _, rfl, v, d, wl, t, [r0, r1], rfl, rfl, D, pl, hw, ht, dr⟩
theorem ok_door_written (T : T w K mg) (PT : ProgT P K mg) : FnR P w K mg base (L2.CX P w) 6 (He.ga K "written") (sp_door K 2) := by
  have F_c : FnR P w K mg base (L2.CX P w) 5 _ _ := ok_door_check_hall T PT
  obtain ⟨fd, F⟩ := T.f_written
  refine F.rX sc_written (fun _ _ _ _ _ _ us hl => match us, hl with | [_, _, _, _], _ => rfl) (fun vs H Q E h => ?_) (fun cdv A outer s H vs Q E hr h => ?_)
  · obtain ⟨_, _, _, _, _, rfl, hl, _⟩ := h
    simp [hl]
  · obtain ⟨v, d, wl, t, rest, rfl, hrl, D, pl, hw, ht, dr⟩ := h
    have tk := takes_of (X := cxOf (L2.CX P w) P w K mg base ["program", "works", "memory", "asks", "rows", "work", "ask", "row"] "written" (defScope s_written) (He.ga K "written") cdv A outer s H E) (E := E) rfl rfl rfl rfl
    match rest, hrl with
    | [r0, r1], _ =>
      refine ⟨_, (pss_cons (ps_expr (pe_callX (E := E) F_c (hr.mono (by decide)) rfl T.g_check_hall T.k_check_hall (passes_call tk (fun _ _ _ _ h => h)) (pa_cons (pv 0) (pa_cons (pv 1) (pa_cons (pv 2) (pa_cons (pv 3) pa_nil)))))) pss_never), ?_⟩
      exact ⟨_, rfl, _, rfl, _, rfl, _, rfl, v, d, wl, t, [r0, r1], rfl, rfl, D, pl, hw, ht, dr⟩
theorem ok_door_first_torn (T : T w K mg) (PT : ProgT P K mg) : FnR P w K mg base (L2.CX P w) 6 (He.ga K "first_torn") (sp_door K 4) := by
  have F_c : FnR P w K mg base (L2.CX P w) 5 _ _ := ok_door_check_windowed T PT
  obtain ⟨fd, F⟩ := T.f_first_torn
  refine F.rX sc_first_torn (fun _ _ _ _ _ _ us hl => match us, hl with | [_, _, _, _, _, _], _ => rfl) (fun vs H Q E h => ?_) (fun cdv A outer s H vs Q E hr h => ?_)
  · obtain ⟨_, _, _, _, _, rfl, hl, _⟩ := h
    simp [hl]
  · obtain ⟨v, d, wl, t, rest, rfl, hrl, D, pl, hw, ht, dr⟩ := h
    have tk := takes_of (X := cxOf (L2.CX P w) P w K mg base ["program", "works", "memory", "work", "low", "high", "when"] "first_torn" (defScope s_first_torn) (He.ga K "first_torn") cdv A outer s H E) (E := E) rfl rfl rfl rfl
    match rest, hrl with
    | [r0, r1, r2, r3], _ =>
      refine ⟨_, (pss_cons (ps_expr (pe_callX (E := E) F_c (hr.mono (by decide)) rfl T.g_check_windowed T.k_check_windowed (passes_call tk (fun _ _ _ _ h => h)) (pa_cons (pv 0) (pa_cons (pv 1) (pa_cons (pv 2) (pa_cons (pv 3) (pa_cons (pv 4) (pa_cons (pv 5) pa_nil)))))))) pss_never), ?_⟩
      exact ⟨_, rfl, _, rfl, _, rfl, _, rfl, _, rfl, _, rfl, v, d, wl, t, [r0, r1, r2, r3], rfl, rfl, D, pl, hw, ht, dr⟩
theorem ok_door_leans (T : T w K mg) (PT : ProgT P K mg) : FnR P w K mg base (L2.CX P w) 6 (He.ga K "leans") (sp_door K 5) := by
  have F_c : FnR P w K mg base (L2.CX P w) 5 _ _ := ok_door_check_windowed T PT
  obtain ⟨fd, F⟩ := T.f_leans
  refine F.rX sc_leans (fun _ _ _ _ _ _ us hl => match us, hl with | [_, _, _, _, _, _, _], _ => rfl) (fun vs H Q E h => ?_) (fun cdv A outer s H vs Q E hr h => ?_)
  · obtain ⟨_, _, _, _, _, rfl, hl, _⟩ := h
    simp [hl]
  · obtain ⟨v, d, wl, t, rest, rfl, hrl, D, pl, hw, ht, dr⟩ := h
    have tk := takes_of (X := cxOf (L2.CX P w) P w K mg base ["program", "works", "memory", "work", "low", "high", "claim", "when", "watch"] "leans" (defScope s_leans) (He.ga K "leans") cdv A outer s H E) (E := E) rfl rfl rfl rfl
    match rest, hrl with
    | [r0, r1, r2, r3, r4], _ =>
      refine ⟨_, (pss_cons (ps_expr (pe_callX (E := E) F_c (hr.mono (by decide)) rfl T.g_check_windowed T.k_check_windowed (passes_call tk (fun _ _ _ _ h => h)) (pa_cons (pv 0) (pa_cons (pv 1) (pa_cons (pv 2) (pa_cons (pv 3) (pa_cons (pv 4) (pa_cons (pv 5) pa_nil)))))))) pss_never), ?_⟩
      exact ⟨_, rfl, _, rfl, _, rfl, _, rfl, _, rfl, _, rfl, v, d, wl, t, [r0, r1, r2, r3], rfl, rfl, D, pl, hw, ht, dr⟩
theorem ok_door_rests (T : T w K mg) (PT : ProgT P K mg) : FnR P w K mg base (L2.CX P w) 6 (He.ga K "rests") (sp_door K 5) := by
  have F_c : FnR P w K mg base (L2.CX P w) 5 _ _ := ok_door_check_windowed T PT
  obtain ⟨fd, F⟩ := T.f_rests
  refine F.rX sc_rests (fun _ _ _ _ _ _ us hl => match us, hl with | [_, _, _, _, _, _, _], _ => rfl) (fun vs H Q E h => ?_) (fun cdv A outer s H vs Q E hr h => ?_)
  · obtain ⟨_, _, _, _, _, rfl, hl, _⟩ := h
    simp [hl]
  · obtain ⟨v, d, wl, t, rest, rfl, hrl, D, pl, hw, ht, dr⟩ := h
    have tk := takes_of (X := cxOf (L2.CX P w) P w K mg base ["program", "works", "memory", "work", "low", "high", "row"] "rests" (defScope s_rests) (He.ga K "rests") cdv A outer s H E) (E := E) rfl rfl rfl rfl
    match rest, hrl with
    | [r0, r1, r2, r3, r4], _ =>
      refine ⟨_, (pss_cons (ps_expr (pe_callX (E := E) F_c (hr.mono (by decide)) rfl T.g_check_windowed T.k_check_windowed (passes_call tk (fun _ _ _ _ h => h)) (pa_cons (pv 0) (pa_cons (pv 1) (pa_cons (pv 2) (pa_cons (pv 3) (pa_cons (pv 4) (pa_cons (pv 5) pa_nil)))))))) pss_never), ?_⟩
      exact ⟨_, rfl, _, rfl, _, rfl, _, rfl, _, rfl, _, rfl, v, d, wl, t, [r0, r1, r2, r3], rfl, rfl, D, pl, hw, ht, dr⟩
theorem ok_door_guards (T : T w K mg) (PT : ProgT P K mg) : FnR P w K mg base (L2.CX P w) 6 (He.ga K "guards") (sp_door K 6) := by
  have F_c : FnR P w K mg base (L2.CX P w) 5 _ _ := ok_door_check_windowed T PT
  obtain ⟨fd, F⟩ := T.f_guards
  refine F.rX sc_guards (fun _ _ _ _ _ _ us hl => match us, hl with | [_, _, _, _, _, _, _, _], _ => rfl) (fun vs H Q E h => ?_) (fun cdv A outer s H vs Q E hr h => ?_)
  · obtain ⟨_, _, _, _, _, rfl, hl, _⟩ := h
    simp [hl]
  · obtain ⟨v, d, wl, t, rest, rfl, hrl, D, pl, hw, ht, dr⟩ := h
    have tk := takes_of (X := cxOf (L2.CX P w) P w K mg base ["program", "works", "memory", "work", "low", "high", "row", "mark", "ahead", "behind"] "guards" (defScope s_guards) (He.ga K "guards") cdv A outer s H E) (E := E) rfl rfl rfl rfl
    match rest, hrl with
    | [r0, r1, r2, r3, r4, r5], _ =>
      refine ⟨_, (pss_cons (ps_expr (pe_callX (E := E) F_c (hr.mono (by decide)) rfl T.g_check_windowed T.k_check_windowed (passes_call tk (fun _ _ _ _ h => h)) (pa_cons (pv 0) (pa_cons (pv 1) (pa_cons (pv 2) (pa_cons (pv 3) (pa_cons (pv 4) (pa_cons (pv 5) pa_nil)))))))) pss_never), ?_⟩
      exact ⟨_, rfl, _, rfl, _, rfl, _, rfl, _, rfl, _, rfl, v, d, wl, t, [r0, r1, r2, r3], rfl, rfl, D, pl, hw, ht, dr⟩
theorem ok_door_times (T : T w K mg) (PT : ProgT P K mg) : FnR P w K mg base (L2.CX P w) 6 (He.ga K "times") (sp_door K 1) := by
  have F_c : FnR P w K mg base (L2.CX P w) 5 _ _ := ok_door_check_ahead T PT
  obtain ⟨fd, F⟩ := T.f_times
  refine F.rX sc_times (fun _ _ _ _ _ _ us hl => match us, hl with | [_, _, _], _ => rfl) (fun vs H Q E h => ?_) (fun cdv A outer s H vs Q E hr h => ?_)
  · obtain ⟨_, _, _, _, _, rfl, hl, _⟩ := h
    simp [hl]
  · obtain ⟨v, d, wl, t, rest, rfl, hrl, D, pl, hw, ht, dr⟩ := h
    have tk := takes_of (X := cxOf (L2.CX P w) P w K mg base ["program", "works", "asks"] "times" (defScope s_times) (He.ga K "times") cdv A outer s H E) (E := E) rfl rfl rfl rfl
    match rest, hrl with
    | [r0], _ =>
      refine ⟨_, (pss_cons (ps_expr (pe_callX (E := E) F_c (hr.mono (by decide)) rfl T.g_check_ahead T.k_check_ahead (passes_call tk (fun _ _ _ _ h => h)) (pa_cons (pv 0) (pa_cons (pv 1) (pa_cons (pv 2) pa_nil))))) pss_never), ?_⟩
      exact ⟨_, rfl, _, rfl, _, rfl, v, d, wl, t, [r0], rfl, rfl, D, pl, hw, ht, dr⟩
theorem ok_door_overs (T : T w K mg) (PT : ProgT P K mg) : FnR P w K mg base (L2.CX P w) 6 (He.ga K "overs") (sp_door K 1) := by
  have F_c : FnR P w K mg base (L2.CX P w) 5 _ _ := ok_door_check_ahead T PT
  obtain ⟨fd, F⟩ := T.f_overs
  refine F.rX sc_overs (fun _ _ _ _ _ _ us hl => match us, hl with | [_, _, _], _ => rfl) (fun vs H Q E h => ?_) (fun cdv A outer s H vs Q E hr h => ?_)
  · obtain ⟨_, _, _, _, _, rfl, hl, _⟩ := h
    simp [hl]
  · obtain ⟨v, d, wl, t, rest, rfl, hrl, D, pl, hw, ht, dr⟩ := h
    have tk := takes_of (X := cxOf (L2.CX P w) P w K mg base ["program", "works", "asks", "told", "going", "whole"] "overs" (defScope s_overs) (He.ga K "overs") cdv A outer s H E) (E := E) rfl rfl rfl rfl
    match rest, hrl with
    | [r0], _ =>
      refine ⟨_, (pss_cons (ps_expr (pe_callX (E := E) F_c (hr.mono (by decide)) rfl T.g_check_ahead T.k_check_ahead (passes_call tk (fun _ _ _ _ h => h)) (pa_cons (pv 0) (pa_cons (pv 1) (pa_cons (pv 2) pa_nil))))) pss_never), ?_⟩
      exact ⟨_, rfl, _, rfl, _, rfl, v, d, wl, t, [r0], rfl, rfl, D, pl, hw, ht, dr⟩
theorem ok_door_sights (T : T w K mg) (PT : ProgT P K mg) : FnR P w K mg base (L2.CX P w) 9 (He.ga K "sights") (sp_door K 3) := by
  have F_c : FnR P w K mg base (L2.CX P w) 8 _ _ := ok_door_run T PT
  obtain ⟨fd, F⟩ := T.f_sights
  refine F.rX sc_sights (fun _ _ _ _ _ _ us hl => match us, hl with | [_, _, _, _, _], _ => rfl) (fun vs H Q E h => ?_) (fun cdv A outer s H vs Q E hr h => ?_)
  · obtain ⟨_, _, _, _, _, rfl, hl, _⟩ := h
    simp [hl]
  · obtain ⟨v, d, wl, t, rest, rfl, hrl, D, pl, hw, ht, dr⟩ := h
    have tk := takes_of (X := cxOf (L2.CX P w) P w K mg base ["program", "works", "memory", "asks", "beats", "told", "shown", "seen", "puts", "when", "who", "deed", "address", "word"] "sights" (defScope s_sights) (He.ga K "sights") cdv A outer s H E) (E := E) rfl rfl rfl rfl
    match rest, hrl with
    | [r0, r1, r2], _ =>
      refine ⟨_, (pss_cons (ps_asg (pe_callX (E := E) F_c (hr.mono (by decide)) rfl T.g_run T.k_run (passes_call tk (fun _ _ _ _ h => h)) (pa_cons (pv 0) (pa_cons (pv 1) (pa_cons (pv 2) (pa_cons (pv 3) (pa_cons (pv 4) pa_nil)))))) (pg_tup rfl (pgs_cons (pg_name (i := 5) sc_sights.nd rfl (Or.inl rfl)) (pgs_cons (pg_name (i := 6) sc_sights.nd rfl (Or.inl rfl)) pgs_nil)))) pss_never), ?_⟩
      exact ⟨_, rfl, _, rfl, _, rfl, _, rfl, _, rfl, v, d, wl, t, [r0, r1, r2], rfl, rfl, D, pl, hw, ht, dr⟩
theorem ok_door_worths (T : T w K mg) (PT : ProgT P K mg) : FnR P w K mg base (L2.CX P w) 9 (He.ga K "worths") (sp_door K 4) := by
  have F_c : FnR P w K mg base (L2.CX P w) 8 _ _ := ok_door_run T PT
  obtain ⟨fd, F⟩ := T.f_worths
  refine F.rX sc_worths (fun _ _ _ _ _ _ us hl => match us, hl with | [_, _, _, _, _, _], _ => rfl) (fun vs H Q E h => ?_) (fun cdv A outer s H vs Q E hr h => ?_)
  · obtain ⟨_, _, _, _, _, rfl, hl, _⟩ := h
    simp [hl]
  · obtain ⟨v, d, wl, t, rest, rfl, hrl, D, pl, hw, ht, dr⟩ := h
    have tk := takes_of (X := cxOf (L2.CX P w) P w K mg base ["program", "works", "memory", "asks", "beats", "address", "told", "shown", "when", "who", "deed", "place", "word"] "worths" (defScope s_worths) (He.ga K "worths") cdv A outer s H E) (E := E) rfl rfl rfl rfl
    match rest, hrl with
    | [r0, r1, r2, r3], _ =>
      refine ⟨_, (pss_cons (ps_asg (pe_callX (E := E) F_c (hr.mono (by decide)) rfl T.g_run T.k_run (passes_call tk (fun _ _ _ _ h => h)) (pa_cons (pv 0) (pa_cons (pv 1) (pa_cons (pv 2) (pa_cons (pv 3) (pa_cons (pv 4) pa_nil)))))) (pg_tup rfl (pgs_cons (pg_name (i := 6) sc_worths.nd rfl (Or.inl rfl)) (pgs_cons (pg_name (i := 7) sc_worths.nd rfl (Or.inl rfl)) pgs_nil)))) pss_never), ?_⟩
      exact ⟨_, rfl, _, rfl, _, rfl, _, rfl, _, rfl, v, d, wl, t, [r0, r1, r2], rfl, rfl, D, pl, hw, ht, dr⟩
end
end SB

set_option Elab.async false
set_option linter.all false
set_option maxRecDepth 100000
set_option maxHeartbeats 2000000
namespace SB
open PySem L2
structure HS where
  prog : List Row
  asks : List (Int × Int)
  S : MS
  ks : List Wk
  took : Bool
  ws : List Int
  beats : Int
def askOne (b : Int) (ks : List Wk) (a : Int × Int) : List Wk := if a.1 = b then ks.modify a.2.toNat Wk.start else ks
def askAll (b : Int) (ks : List Wk) (as : List (Int × Int)) : List Wk := as.foldl (askOne b) ks
def HS.dm (s : HS) := devMove (askAll s.beats s.ks s.asks) s.took (wantedOf s.prog s.S).isSome s.S.marks s.ws
def HS.ms (s : HS) := mstep s.prog s.S s.dm.1 s.dm.2.1 s.dm.2.2.1
def HS.next (s : HS) : HS := { s with S := s.ms.1, ks := s.ms.2.1, took := s.dm.2.1, ws := s.ms.2.2.1, beats := s.beats + 1 }
def askedOf (s : HS) : List Int := (s.asks.filter fun a => decide (a.1 = s.beats)).map (·.2)
def HS.wake (s : HS) (g : GH) : GH := ({ g with nb := g.G.length } : GH).startAll (askedOf s)
def HS.gmove (s : HS) (g : GH) : GH := devG (askAll s.beats s.ks s.asks) s.took (wantedOf s.prog s.S).isSome s.S.marks s.ws s.beats (s.wake g)
def HS.gnext (s : HS) (g : GH) : GH := mstepG s.prog s.S s.dm.2.1 (s.gmove g)
theorem startAll_asks {b : Int} : ∀ {as : List (Int × Int)} {ks : List Wk}, startAll ks ((as.filter fun a => decide (a.1 = b)).map (·.2)) = askAll b ks as
  | [], ks => rfl
  | a :: r, ks => by
    have ih := fun ks' => startAll_asks (b := b) (as := r) (ks := ks')
    show startAll ks (((a :: r).filter fun a => decide (a.1 = b)).map (·.2)) = askAll b (askOne b ks a) r
    by_cases h : a.1 = b
    · rw [List.filter_cons_of_pos (by simpa using h)]
      unfold askOne
      rw [if_pos h]
      exact ih _
    · rw [List.filter_cons_of_neg (by simpa using h)]
      unfold askOne
      rw [if_neg h]
      exact ih _
structure HOk (s : HS) : Prop where
  m : MOk s.prog s.S
  w0 : 0 < s.ws.length
  k : ∀ k ∈ s.ks, WkOk 3 k
  a : ∀ a ∈ s.asks, 0 ≤ a.2
  a8 : s.asks.length ≤ 8
  l6 : s.ks.length ≤ 6
theorem Row.beats_pos {r : Row} {n : Nat} (h : r.okW n) : 0 < r.beats := by
  cases r <;> simp [Row.beats, Row.okW, rg] at h ⊢ <;> omega
theorem WkOk.start {n : Nat} {k : Wk} (h : WkOk n k) : WkOk n k.start := by
  unfold Wk.start
  split
  · exact h
  · exact h
theorem WkOk.move {n : Nat} {k : Wk} {ws : List Int} (h : WkOk n k) : WkOk n (k.move ws).1 := by
  unfold Wk.move
  cases k.hand <;> exact h
theorem askAll_ok {b : Int} {n : Nat} : ∀ {as : List (Int × Int)} {ks : List Wk}, (∀ k ∈ ks, WkOk n k) → ∀ k ∈ askAll b ks as, WkOk n k
  | [], ks, h => h
  | a :: r, ks, h => by
    show ∀ k ∈ askAll b (askOne b ks a) r, WkOk n k
    refine askAll_ok (fun k hk => ?_)
    unfold askOne at hk
    split at hk
    · exact all_modify (fun x hx => hx.start) h k hk
    · exact h k hk
theorem askAll_len {b : Int} : ∀ {as : List (Int × Int)} {ks : List Wk}, (askAll b ks as).length = ks.length
  | [], ks => rfl
  | a :: r, ks => by
    show (askAll b (askOne b ks a) r).length = ks.length
    rw [askAll_len]
    unfold askOne
    split
    · exact List.length_modify _ _ _
    · rfl
theorem devMove_ok {n : Nat} {ks : List Wk} {took wanted : Bool} {ms : List Bool} {ws : List Int} (h : ∀ k ∈ ks, WkOk n k) : ∀ k ∈ (devMove ks took wanted ms ws).1, WkOk n k := by
  unfold devMove
  cases ks.findIdx? (takes ms wanted took) with
  | none => exact h
  | some j =>
    cases hk : ks[j]? with
    | none => simp only [hk]; exact h
    | some k =>
      have hk' := h k (List.mem_of_getElem? hk)
      simp only [hk]
      split
      · exact all_set h hk'.move
      · split
        · exact all_set h hk'.move
        · exact all_modify (fun x hx => hx.start) (all_set h hk'.move)
theorem devMove_len {ks : List Wk} {took wanted : Bool} {ms : List Bool} {ws : List Int} : (devMove ks took wanted ms ws).1.length = ks.length ∧ (devMove ks took wanted ms ws).2.2.1.length = ws.length := by
  unfold devMove
  cases ks.findIdx? (takes ms wanted took) with
  | none => exact ⟨rfl, rfl⟩
  | some j =>
    cases hk : ks[j]? with
    | none => simp [hk]
    | some k =>
      simp only [hk]
      constructor
      · split
        · simp
        · split <;> simp
      · unfold Wk.move
        cases k.hand <;> simp
theorem eff_ks_ok {n m : Nat} {S : MS} {ks : List Wk} {r : Row} (h : ∀ k ∈ ks, WkOk n k) : ∀ k ∈ (eff m S ks r).2, WkOk n k := by
  cases r <;> first | exact h | exact all_modify (fun x hx => hx.start) h
theorem eff_len {m : Nat} {S : MS} {ks : List Wk} {r : Row} : (eff m S ks r).2.length = ks.length := by
  cases r <;> first | rfl | exact List.length_modify _ _ _
theorem eff_m {prog : List Row} {S : MS} {ks : List Wk} {r : Row} (ok : r.okW prog.length) (hr : 0 ≤ S.row) (hn : S.row < prog.length) : (eff prog.length S ks r).1.cells.length = S.cells.length ∧ (eff prog.length S ks r).1.marks.length = S.marks.length ∧
    0 ≤ (eff prog.length S ks r).1.row ∧ (eff prog.length S ks r).1.row ≤ prog.length ∧ (eff prog.length S ks r).1.spent = 0 := by
  cases r <;> simp [eff, Row.okW] at ok ⊢ <;> first | omega | (split <;> omega)
theorem tick_m {prog : List Row} {S : MS} {ks : List Wk} {r : Row} (ok : r.okW prog.length) (hr : 0 ≤ S.row) (hn : prog[S.row.toNat]? = some r) (h0 : 0 ≤ S.spent) (h1 : S.spent ≤ r.beats) (c4 : S.cells.length = 4) (m3 : S.marks.length = 3) (hp : ∀ r ∈ prog, r.okW prog.length) :
    MOk prog (tick prog.length S ks r).1 := by
  have hlt : S.row < prog.length := by
    have := (List.getElem?_eq_some_iff.mp hn).1
    omega
  unfold tick
  split
  · obtain ⟨a1, a2, a3, a4, a5⟩ := eff_m (ks := ks) ok hr hlt
    exact ⟨by rw [a1]; exact c4, by rw [a2]; exact m3, a3, a4, by rw [a5]; exact Int.le_refl 0, fun r' h' => by rw [a5]; exact Row.beats_pos (hp r' (List.mem_of_getElem? h')), hp⟩
  · rename_i hne
    refine ⟨c4, m3, hr, Int.le_of_lt hlt, h0, fun r' h' => ?_, hp⟩
    have e : r' = r := by
      have h'' : prog[S.row.toNat]? = some r' := h'
      rw [hn] at h''
      exact (Option.some.inj h'').symm
    rw [e]
    show S.spent < r.beats
    omega
theorem useW_len {z : Str} {p cl : Int} {cells ws : List Int} : (useW z p cl cells ws).1.length = cells.length ∧ (useW z p cl cells ws).2.1.length = ws.length := by
  unfold useW
  split <;> simp
theorem tick_ks {n m : Nat} {S : MS} {ks : List Wk} {r : Row} (h : ∀ k ∈ ks, WkOk n k) : ∀ k ∈ (tick m S ks r).2, WkOk n k := by
  unfold tick
  split
  · exact eff_ks_ok h
  · exact h
theorem tick_len {m : Nat} {S : MS} {ks : List Wk} {r : Row} : (tick m S ks r).2.length = ks.length := by
  unfold tick
  split
  · exact eff_len
  · rfl
theorem mstep_ok {prog : List Row} {S : MS} {ks : List Wk} {took : Bool} {ws : List Int} (O : MOk prog S) : MOk prog (mstep prog S ks took ws).1 := by
  unfold mstep
  cases e1 : prog[S.row.toNat]? with
  | none => exact O
  | some r =>
    have rok := O.rows r (List.mem_of_getElem? e1)
    have s1 := O.sp1 r e1
    have s0 := O.sp0
    cases hwd : r.word S.spent S.cells with
    | none =>
      simp only [hwd]
      exact tick_m rok O.row0 e1 (by show 0 ≤ S.spent + 1; omega) (by show S.spent + 1 ≤ _; omega) O.c4 O.m3 O.rows
    | some zz =>
      obtain ⟨z, p, cl⟩ := zz
      simp only [hwd]
      split
      · exact O
      · exact tick_m rok O.row0 e1 (by show 0 ≤ S.spent + 1; omega) (by show S.spent + 1 ≤ _; omega) (by show (useW z p cl S.cells ws).1.length = 4; rw [useW_len.1]; exact O.c4) O.m3 O.rows
theorem mstep_ks {prog : List Row} {S : MS} {ks : List Wk} {took : Bool} {ws : List Int} {n : Nat} (h : ∀ k ∈ ks, WkOk n k) : ∀ k ∈ (mstep prog S ks took ws).2.1, WkOk n k := by
  unfold mstep
  cases e1 : prog[S.row.toNat]? with
  | none => exact h
  | some r =>
    cases hwd : r.word S.spent S.cells with
    | none => simp only [hwd]; exact tick_ks h
    | some zz =>
      obtain ⟨z, p, cl⟩ := zz
      simp only [hwd]
      split
      · exact h
      · exact tick_ks h
theorem mstep_len {prog : List Row} {S : MS} {ks : List Wk} {took : Bool} {ws : List Int} : (mstep prog S ks took ws).2.1.length = ks.length ∧ (mstep prog S ks took ws).2.2.1.length = ws.length := by
  unfold mstep
  cases e1 : prog[S.row.toNat]? with
  | none => exact ⟨rfl, rfl⟩
  | some r =>
    cases hwd : r.word S.spent S.cells with
    | none => simp only [hwd]; exact ⟨tick_len, trivial⟩
    | some zz =>
      obtain ⟨z, p, cl⟩ := zz
      simp only [hwd]
      split
      · exact ⟨rfl, rfl⟩
      · exact ⟨tick_len, useW_len.2⟩
theorem HOk.next {s : HS} (O : HOk s) : HOk s.next := by
  refine ⟨mstep_ok O.m, ?_, ?_, O.a, O.a8, ?_⟩
  · show 0 < s.ms.2.2.1.length
    unfold HS.ms
    rw [mstep_len.2]
    unfold HS.dm
    rw [devMove_len.2]
    exact O.w0
  · exact mstep_ks (devMove_ok (askAll_ok O.k))
  · show s.ms.2.1.length ≤ 6
    unfold HS.ms
    rw [mstep_len.1]
    unfold HS.dm
    rw [devMove_len.1, askAll_len]
    exact O.l6
end SB

set_option Elab.async false
set_option linter.all false
set_option maxRecDepth 100000
set_option maxHeartbeats 2000000
namespace SB
open PySem L2
structure FA where
  (h dh m dm pa c k lw al : Addr)
  (rs qs : List Addr)
  da : DA
def FA.own (a : FA) : List Addr := [a.h, a.m, a.c, a.k, a.lw]
def FA.foot (a : FA) : List Addr := a.own ++ a.da.foot
structure FlAt (K : PySem.W.Frag) (H : Hp) (a : FA) (s : HS) (g : GH) : Prop where
  ob : H a.h = some (.ins (cFloor K) a.dh (flF ⟨a.m, a.da.d, a.lw, a.al, s.beats⟩))
  mc : McAt K H a.m a.dm a.pa a.rs s.prog a.c a.k s.S
  dv : DevAt K H a.da s.ks s.took g
  wd : H a.lw = some (.lst (s.ws.map V.int))
  als : H a.al = some (.lst (a.qs.map V.ref))
  alen : a.qs.length = s.asks.length
  aat : ∀ (j : Nat) (t : Addr) (x : Int × Int), a.qs[j]? = some t → s.asks[j]? = some x → SqT K H t [.int x.1, .int x.2]
  nal : a.al ∉ a.foot
  ap : ∀ b ∈ a.own, b ∉ a.da.foot
  hm : a.h ≠ a.m
  wc : a.lw ≠ a.c
  wk : a.lw ≠ a.k
section
variable {P : Program} {w : World} {K : PySem.W.Frag} {mg : Str → Option Value} {base : Heap} {H H' : Hp} {a : FA} {s : HS} {g : GH}
theorem FlAt.inO (A : FlAt K H a s g) : ∀ b ∈ a.own, ∃ u, H b = some u ∧ notTup u = true := fun b hb => by
  unfold FA.own at hb
  simp only [List.mem_cons] at hb
  rcases hb with rfl | rfl | rfl | rfl | rfl | hb
  · exact ⟨_, A.ob, rfl⟩
  · exact ⟨_, A.mc.ob, rfl⟩
  · exact ⟨_, A.mc.hc, rfl⟩
  · exact ⟨_, A.mc.hk, rfl⟩
  · exact ⟨_, A.wd, rfl⟩
  · cases hb
theorem FlAt.inF (A : FlAt K H a s g) : ∀ b ∈ a.foot, ∃ u, H b = some u ∧ notTup u = true := fun b hb => by
  rcases List.mem_append.mp hb with hb | hb
  · exact A.inO b hb
  · exact A.dv.inF b hb
theorem ne_of_none' {a b : Addr} {o : HO} (h : H a = some o) (h' : H b = none) : b ≠ a := Ne.symm (ne_of_none h h')
theorem FlAt.change (A : FlAt K H a s g) {s' : HS} {da : DA} {g' : GH} (hp : s'.prog = s.prog) (ha : s'.asks = s.asks) (st : Stp a.own a.da.foot H da.foot H') (ob : H' a.h = some (.ins (cFloor K) a.dh (flF ⟨a.m, da.d, a.lw, a.al, s'.beats⟩)))
    (mc : McAt K H' a.m a.dm a.pa a.rs s'.prog a.c a.k s'.S) (dv : DevAt K H' da s'.ks s'.took g') (wd : H' a.lw = some (.lst (s'.ws.map V.int))) : FlAt K H' { a with da := da } s' g' := by
  refine ⟨ob, mc, dv, wd, st.kp _ _ A.als A.nal, by rw [ha]; exact A.alen, fun j t x h1 h2 => tup_keep (A.aat j t x h1 (by rw [← ha]; exact h2)) st.kp A.inF, fun z => ?_, fun b hb => ?_, A.hm, A.wc, A.wk⟩
  · have z' : a.al ∈ a.own ++ da.foot := z
    rcases List.mem_append.mp z' with z | z
    · exact A.nal (List.mem_append.mpr (.inl z))
    · exact st.apart A.als (fun y => A.nal (List.mem_append.mpr (.inr y))) z
  · obtain ⟨u, hu, _⟩ := A.inO b hb
    exact st.apart hu (A.ap b hb)
theorem FlAt.same (A : FlAt K H a s g) (e : Same H H') : FlAt K H' a s g := A.change (da := a.da) rfl rfl (Stp.same e) (e _ _ A.ob) (A.mc.same e) (A.dv.same e) (e _ _ A.wd)
theorem FlAt.stay (A : FlAt K H a s g) {as : List Addr} (k : Kept as H H') (h : ∀ b ∈ a.foot, b ∉ as) (h2 : a.al ∉ as) (hn : ∀ b ∈ as, ∃ u, H b = some u ∧ notTup u = true) : FlAt K H' a s g := by
  have ho : ∀ b ∈ a.own, b ∉ as := fun b hb => h b (List.mem_append.mpr (.inl hb))
  refine ⟨k _ _ A.ob (ho _ (by simp [FA.own])), A.mc.stay k (fun b hb => ho b (by
    simp only [List.mem_cons] at hb
    simp only [FA.own, List.mem_cons]
    rcases hb with h | h | h | h
    · exact .inr (.inl h)
    · exact .inr (.inr (.inl h))
    · exact .inr (.inr (.inr (.inl h)))
    · cases h)) hn, A.dv.stay k (fun b hb => h b (List.mem_append.mpr (.inr hb))) hn, k _ _ A.wd (ho _ (by simp [FA.own])), k _ _ A.als h2, A.alen, fun j t x h1 h2 => tup_keep (A.aat j t x h1 h2) k hn, A.nal, A.ap, A.hm, A.wc, A.wk⟩
def ToldB (H H' : Hp) (v : V) (x : Option (Int × Str × Int × Int)) (y : MT) : Prop := ∃ p v1 v2, v = .ref p ∧ H p = none ∧ H' p = some (.tup [v1, v2]) ∧ Told H H' v1 x ∧ ToldM H H' v2 y
theorem Told.keep {H H1 H2 : Hp} {v : V} {y : Option (Int × Str × Int × Int)} (t : Told H H1 v y) (h : ∀ q us, H1 q = some (.tup us) → H2 q = some (.tup us)) : Told H H2 v y := by
  cases y with
  | none => exact t
  | some z =>
    obtain ⟨z1, z2, z3, z4⟩ := z
    obtain ⟨q, e, h1, h2⟩ := t
    exact ⟨q, e, h1, h _ _ h2⟩
theorem Told.early {H0 H H1 : Hp} {v : V} {y : Option (Int × Str × Int × Int)} (t : Told H H1 v y) (h : ∀ b, H b = none → H0 b = none) : Told H0 H1 v y := by
  cases y with
  | none => exact t
  | some z =>
    obtain ⟨z1, z2, z3, z4⟩ := z
    obtain ⟨q, e, h1, h2⟩ := t
    exact ⟨q, e, h _ h1, h2⟩
theorem ToldM.early {H0 H H1 : Hp} {v : V} {y : MT} (t : ToldM H H1 v y) (h : ∀ b, H b = none → H0 b = none) : ToldM H0 H1 v y := by
  cases y with
  | word z a x =>
    obtain ⟨q, e, h1, h2⟩ := t
    exact ⟨q, e, h _ h1, h2⟩
  | _ => exact t
structure FLe (a a' : FA) : Prop where
  h : a'.h = a.h
  o : a'.own = a.own
  al : a'.al = a.al
  d : DLe a.da a'.da
theorem FLe.refl (a : FA) : FLe a a := ⟨rfl, rfl, rfl, DLe.refl _⟩
theorem FLe.trans {a b c : FA} (x : FLe a b) (y : FLe b c) : FLe a c := ⟨y.h.trans x.h, y.o.trans x.o, y.al.trans x.al, x.d.trans y.d⟩
theorem HOk.gl (O : HOk s) (g : GH) : (s.wake g).G.length < (s.wake g).nb + 100 := by
  have h := GH.startAll_len (ns := askedOf s) (g := ({ g with nb := g.G.length } : GH))
  have h8 : (askedOf s).length ≤ 8 := by
    unfold askedOf
    rw [List.length_map]
    exact Nat.le_trans (List.length_filter_le _ _) O.a8
  unfold HS.wake
  rw [h.2]
  have h1 := h.1
  show _ < g.G.length + 100
  have e : (({ g with nb := g.G.length } : GH)).G.length = g.G.length := rfl
  rw [e] at h1
  omega
theorem devG_len {ks : List Wk} {took wanted : Bool} {ms : List Bool} {ws : List Int} {when : Int} {g : GH} : (devG ks took wanted ms ws when g).G.length ≤ g.G.length + 1 ∧ (devG ks took wanted ms ws when g).nb = g.nb := by
  unfold devG
  cases ks.findIdx? (takes ms wanted took) with
  | none => simp
  | some j =>
    cases hk : ks[j]? with
    | none => simp only [hk]; simp
    | some k =>
      simp only [hk]
      have h1 := GH.move_len (g := g) (j := j) (k := k) (when := when) (ws := ws)
      split
      · omega
      · split
        · omega
        · rename_i f _
          have h2 := GH.start_len (g := g.move j k when ws) (n := f.toNat)
          omega
def sp_Floor_pass_beat (K : PySem.W.Frag) : Sp := fun vs H Q _ => ∃ (a : FA) (s : HS) (g : GH), vs = [.ref a.h] ∧ FlAt K H a s g ∧ HOk s ∧ ∀ H' a' v, FLe a a' → FlAt K H' a' s.next (s.gnext g) → Step a.foot H a'.foot H' → ToldB H H' v s.dm.2.2.2 s.ms.2.2.2 → Q v H'
theorem ok_Floor_pass_beat (T : T w K mg) : FnR P w K mg base CX0 6 (He.ma K (He.ga K "Floor") "pass_beat") (sp_Floor_pass_beat K) := by
  have F_Device_wake : FnR P w K mg base CX0 4 _ _ := ok_Device_wake T
  have F_Device_move : FnR P w K mg base CX0 4 _ _ := ok_Device_move T
  have F_Machine_wanted : FnR P w K mg base CX0 2 _ _ := ok_Machine_wanted T
  have F_Machine_step : FnR P w K mg base CX0 5 _ _ := ok_Machine_step T
  obtain ⟨fd, F⟩ := T.f_Floor_pass_beat
  refine F.r sc_Floor_pass_beat (fun _ _ _ _ _ _ us hl => match us, hl with | [_], _ => rfl) (fun vs H Q E h => ?_) (fun cdv A outer s0 H vs Q E hr h => ?_)
  · obtain ⟨_, _, _, rfl, _⟩ := h
    rfl
  · obtain ⟨a, s, g, rfl, L, O, q⟩ := h
    refine ⟨_, (pss_cons (ps_expr (pe_mthR (pe_fld (pv 0) rfl) T.cl_Device T.m_Device_wake F_Device_wake (hr.mono (by decide)) (pa_cons (pe_lc (own := [("when", 4), ("work", 5)]) (g := gTup K 2 (gCons (gName 4) (gCons (gName 5) gNil))) (tt := tTest (tOp rEq (tVar 4) (tFld K (tVar 0) "beats"))) (te := tVar 5) rfl sc_Floor_pass_beat.nd (pi_list (pe_fld (pv 0) rfl))
        (blkOk_by (N := ["self", "wanted", "moved", "done", "when", "work"]) (sc := defScope s_Floor_pass_beat) (by decide +kernel))
        (fun _ _ _ _ _ => pg_tup rfl (pgs_cons (pg_name (i := 4) sc_Floor_pass_beat.nd rfl (Or.inl rfl)) (pgs_cons (pg_name (i := 5) sc_Floor_pass_beat.nd rfl (Or.inl rfl)) pgs_nil)))
        (fun _ _ _ _ _ => pts_one (pt_cmpR op_eq (pv 4) (pe_fld (pv 0) rfl) (nomark _)))
        (fun _ _ _ _ _ => pv 5)) pa_nil)))
      (pss_cons (ps_set (i := 1) sc_Floor_pass_beat.nd rfl (Or.inl rfl) (pe_cmp (pc_notN (pe_mth0R (pe_fld (pv 0) rfl) T.cl_Machine T.m_Machine_wanted F_Machine_wanted (hr.mono (by decide))))))
      (pss_cons (ps_set (i := 2) sc_Floor_pass_beat.nd rfl (Or.inl rfl) (pe_mthR (pe_fld (pv 0) rfl) T.cl_Device T.m_Device_move F_Device_move (hr.mono (by decide)) (pa_cons (pe_fld (pv 0) rfl) (pa_cons (pv 1) (pa_cons (pe_fld (pe_fld (pv 0) rfl) rfl) (pa_cons (pe_fld (pv 0) rfl) pa_nil))))))
      (pss_cons (ps_set (i := 3) sc_Floor_pass_beat.nd rfl (Or.inl rfl) (pe_mthR (pe_fld (pv 0) rfl) T.cl_Machine T.m_Machine_step F_Machine_step (hr.mono (by decide)) (pa_cons (pe_fld (pv 0) rfl) (pa_cons (pe_fld (pv 0) rfl) pa_nil))))
      (pss_cons (ps_fldaug (pv 0) pe_int in_add)
      (pss_one (ps_ret (pe_tup (pa_cons (pv 2) (pa_cons (pv 3) pa_nil)))))))))), ?_⟩
    refine ⟨_, rfl, _, _, _, _, _, rfl, L.ob, T.cl_Floor, T.n_Floor_device, fl_device _, ?_⟩
    refine ⟨_, _, _, rfl, L.dv.ob, dv_no_wake _, ?_⟩
    refine ⟨_, rfl, _, _, _, _, _, rfl, L.ob, T.cl_Floor, T.n_Floor_asks, fl_asks _, ?_⟩
    refine ⟨a.al, rfl, ⟨_, SqL.of L.als⟩, fun R hR => ?_⟩
    refine lc_list (K := K) (a := a.al) (xs := a.qs.map V.ref) (fun i H2 => H2 R = some (.lst ((((s.asks.take i).filter fun a => decide (a.1 = s.beats)).map (·.2)).map V.int)) ∧ Same H H2)
      ⟨upd_same, Same.new (Same.refl H) hR⟩ (fun i H2 _ ⟨_, s2⟩ => SqL.of (s2 _ _ L.als)) ?_ ?_
    · rintro i x H2 hx ⟨hR2, s2⟩
      rw [List.getElem?_map] at hx
      cases ht : a.qs[i]? with
      | none => rw [ht] at hx; cases hx
      | some t =>
        rw [ht] at hx
        cases hx
        have hi : i < s.asks.length := by rw [← L.alen]; exact (List.getElem?_eq_some_iff.mp ht).1
        obtain ⟨x, hx⟩ : ∃ x, s.asks[i]? = some x := ⟨_, List.getElem?_eq_getElem hi⟩
        have e4 := Same.tup s2 (L.aat i t x ht hx)
        have et : s.asks.take (i + 1) = s.asks.take i ++ [x] := by
          rw [List.take_add_one, hx]
          rfl
        refine ⟨t, _, rfl, e4, rfl, _, _, rfl, _, _, rfl, rfl, rfl, ?_⟩
        refine ⟨_, rfl, _, rfl, _, _, _, _, _, rfl, s2 _ _ L.ob, T.cl_Floor, T.n_Floor_beats, fl_beats _, rfl, _, rfl, ?_⟩
        rw [dec_int']
        by_cases g1 : x.1 = s.beats
        · rw [decide_eq_true g1]
          refine iteT ?_
          refine ⟨_, rfl, _, hR2, ?_, ?_, ?_⟩
          · rw [List.length_map, List.length_map]
            have h1 := List.length_filter_le (fun a : Int × Int => decide (a.1 = s.beats)) (s.asks.take i)
            rw [List.length_take] at h1
            have h8 := O.a8
            exact Nat.lt_of_le_of_lt (Nat.le_trans h1 (by omega : _ ≤ 8)) (by decide)
          · rw [upd_same, et, List.filter_append, List.filter_cons_of_pos (by simpa using g1)]
            simp
          · exact Same.new s2 hR
        · rw [decide_eq_false g1]
          refine iteF ⟨?_, s2⟩
          rw [et, List.filter_append, List.filter_cons_of_neg (by simpa using g1)]
          simpa using hR2
    · rintro H2 ⟨hR2, s2⟩
      rw [List.length_map, L.alen, List.take_length] at hR2
      have L2 := L.same s2
      have nR : R ∉ a.foot := fun z => by
        obtain ⟨u, hu, _⟩ := L.inF R z
        rw [hR] at hu
        cases hu
      have a8 : (askedOf s).length ≤ 8 := by
        unfold askedOf
        rw [List.length_map]
        exact Nat.le_trans (List.length_filter_le _ _) O.a8
      refine ⟨a.da, _, _, _, R, askedOf s, rfl, L2.dv, hR2, fun z => nR (List.mem_append.mpr (.inr z)), a8, fun n hn => ?_, fun H3 d3 le3 D3 st3 => ?_⟩ -- wake
      · obtain ⟨x, hx, e⟩ := List.mem_map.mp hn
        rw [← e]
        exact O.a x (List.mem_filter.mp hx).1
      have ew : startAll s.ks (askedOf s) = askAll s.beats s.ks s.asks := startAll_asks
      rw [ew] at D3
      have ow : ∀ {b : Addr}, b ∈ a.own → b ∉ a.da.foot := fun hb => L2.ap _ hb
      have own3 : ∀ {b : Addr} {o : HO}, b ∈ a.own → H2 b = some o → H3 b = some o := fun hb h => st3.kp _ _ h (ow hb)
      have mck : ∀ b ∈ [a.m, a.c, a.k], b ∈ a.own := fun b hb => by
        simp only [List.mem_cons] at hb
        simp only [FA.own, List.mem_cons]
        rcases hb with h | h | h | h
        · exact .inr (.inl h)
        · exact .inr (.inr (.inl h))
        · exact .inr (.inr (.inr (.inl h)))
        · cases h
      have L3 : FlAt K H3 { a with da := d3 } { s with ks := askAll s.beats s.ks s.asks } (s.wake g) := by
        refine L2.change (s' := { s with ks := askAll s.beats s.ks s.asks }) rfl rfl (st3.more a.own) ?_ (L2.mc.stay st3.kp (fun b hb => ow (mck b hb)) L2.dv.inF) D3 (own3 (by simp [FA.own]) L2.wd)
        rw [le3.d]
        exact own3 (by simp [FA.own]) L2.ob
      have k03 : Stp a.own a.da.foot H d3.foot H3 := (Stp.same s2).trans (st3.more a.own)
      refine ⟨_, rfl, _, _, _, _, _, rfl, L3.ob, T.cl_Floor, T.n_Floor_machine, fl_machine _, ?_⟩
      refine ⟨_, _, _, rfl, L3.mc.ob, mc_no_wanted _, ?_⟩
      refine ⟨_, _, _, _, _, _, _, _, rfl, L3.mc, O.m, fun H4 wv s4 hwv => ?_⟩ -- self.machine.wanted()
      have L4 := L3.same s4
      have ewv : (!decide (wv = V.non)) = (wantedOf s.prog s.S).isSome := by
        have hwv' : Wtd H3 H4 wv (wantedOf s.prog s.S) := hwv
        cases hw : wantedOf s.prog s.S with
        | none =>
          rw [hw] at hwv'
          have e : wv = .non := hwv'
          rw [e]
          rfl
        | some z =>
          rw [hw] at hwv'
          obtain ⟨z1, z2, z3⟩ := z
          obtain ⟨y, e, _⟩ := hwv'
          rw [e]
          rfl
      dsimp only
      rw [ewv]
      refine ⟨_, rfl, _, _, _, _, _, rfl, L4.ob, T.cl_Floor, T.n_Floor_device, fl_device _, ?_⟩
      refine ⟨_, _, _, rfl, L4.dv.ob, dv_no_move _, ?_⟩
      refine ⟨_, rfl, _, _, _, _, _, rfl, L4.ob, T.cl_Floor, T.n_Floor_beats, fl_beats _, ?_⟩
      refine ⟨_, rfl, ?_⟩ -- wanted
      refine ⟨_, rfl, _, _, _, _, _, rfl, L4.ob, T.cl_Floor, T.n_Floor_machine, fl_machine _, ?_⟩
      refine ⟨_, _, _, _, _, rfl, L4.mc.ob, T.cl_Machine, T.n_Machine_marks, mc_marks _, ?_⟩
      refine ⟨_, rfl, _, _, _, _, _, rfl, L4.ob, T.cl_Floor, T.n_Floor_words, fl_words _, ?_⟩
      have hok3 : ∀ k ∈ askAll s.beats s.ks s.asks, WkOk s.S.marks.length k := by rw [O.m.m3]; exact askAll_ok O.k
      have gl := O.gl g
      refine ⟨d3, _, _, _, _, _, _, _, _, _, rfl, L4.dv, L4.mc.hk, L4.wd, O.w0, L4.ap _ (by simp [FA.own]), hok3, by omega, fun H5 d5 mv le5 D5 hl5 st5 t5 => ?_⟩ -- self.device.move(..)
      have lwo : a.lw ∈ a.own := by simp [FA.own]
      have st5' : Stp a.own d3.foot H4 d5.foot H5 := st5.mono (fun x hx => by
        have e : x = a.lw := by simpa using hx
        rw [e]
        exact lwo)
      have inF4 : ∀ b ∈ [a.lw] ++ d3.foot, ∃ u, H4 b = some u ∧ notTup u = true := fun b hb => by
        rcases List.mem_append.mp hb with hb | hb
        · have e : b = a.lw := by simpa using hb
          rw [e]
          exact ⟨_, L4.wd, rfl⟩
        · exact L4.dv.inF b hb
      have ow4 : ∀ {b : Addr}, b ∈ a.own → b ∉ d3.foot := fun hb => L4.ap _ hb
      have nlw : ∀ {b : Addr}, b ∈ a.own → b ≠ a.lw → b ∉ [a.lw] ++ d3.foot := fun {b} hb hn z => by
        rcases List.mem_append.mp z with z | z
        · exact hn (by simpa using z)
        · exact ow4 hb z
      have mlw : a.m ≠ a.lw := ins_ne_lst L4.mc.ob L4.wd
      have hlw : a.h ≠ a.lw := ins_ne_lst L4.ob L4.wd
      have M5 : McAt K H5 a.m a.dm a.pa a.rs s.prog a.c a.k s.S := L4.mc.stay st5.kp (fun b hb => by
        refine nlw (mck b hb) ?_
        simp only [List.mem_cons] at hb
        rcases hb with rfl | rfl | rfl | h
        · exact mlw
        · exact Ne.symm L.wc
        · exact Ne.symm L.wk
        · cases h) inF4
      have L5 : FlAt K H5 { a with da := d5 } { s with ks := s.dm.1, took := s.dm.2.1, ws := s.dm.2.2.1 } (s.gmove g) := by
        refine L4.change (s' := { s with ks := s.dm.1, took := s.dm.2.1, ws := s.dm.2.2.1 }) rfl rfl st5' ?_ M5 D5 hl5
        rw [le5.d]
        exact st5.kp _ _ L4.ob (nlw (by simp [FA.own]) hlw)
      refine ⟨_, rfl, _, _, _, _, _, rfl, L5.ob, T.cl_Floor, T.n_Floor_machine, fl_machine _, ?_⟩
      refine ⟨_, _, _, rfl, L5.mc.ob, mc_no_step _, ?_⟩
      refine ⟨_, rfl, _, _, _, _, _, rfl, L5.ob, T.cl_Floor, T.n_Floor_words, fl_words _, ?_⟩
      refine ⟨_, rfl, _, _, _, _, _, rfl, L5.ob, T.cl_Floor, T.n_Floor_device, fl_device _, ?_⟩
      have w05 : 0 < s.dm.2.2.1.length := by unfold HS.dm; rw [devMove_len.2]; exact O.w0
      have gl5 : (s.gmove g).G.length < (s.gmove g).nb + 1000 := by
        have h := devG_len (ks := askAll s.beats s.ks s.asks) (took := s.took) (wanted := (wantedOf s.prog s.S).isSome) (ms := s.S.marks) (ws := s.ws) (when := s.beats) (g := s.wake g)
        unfold HS.gmove
        omega
      refine ⟨_, _, _, _, _, _, d5, _, _, _, _, _, _, _, rfl, L5.mc, O.m, L5.dv, fun b hb => L5.ap b (mck b hb), L5.wd, w05, L5.wc, L5.wk, L5.ap _ lwo, gl5, fun H6 d6 dv le6 M6 D6 hl6 st6 t6 => ?_⟩ -- self.machine.step(..)
      have st6' : Stp a.own d5.foot H5 d6.foot H6 := st6.mono (fun x hx => by
        simp only [List.mem_cons] at hx
        simp only [FA.own, List.mem_cons]
        rcases hx with h | h | h | h | h
        · exact .inr (.inl h)
        · exact .inr (.inr (.inl h))
        · exact .inr (.inr (.inr (.inl h)))
        · exact .inr (.inr (.inr (.inr (.inl h))))
        · cases h)
      have hh6 : a.h ∉ [a.m, a.c, a.k, a.lw] ++ d5.foot := fun z => by
        rcases List.mem_append.mp z with z | z
        · simp only [List.mem_cons] at z
          rcases z with z | z | z | z | z
          · exact L5.hm z
          · exact (lst_ne_ins L5.mc.hc L5.ob) z.symm
          · exact (lst_ne_ins L5.mc.hk L5.ob) z.symm
          · exact hlw z
          · cases z
        · exact L5.ap a.h (by simp [FA.own]) z
      have L6 : FlAt K H6 { a with da := d6 } { s with S := s.ms.1, ks := s.ms.2.1, took := s.dm.2.1, ws := s.ms.2.2.1 } (s.gnext g) := by
        refine L5.change (s' := { s with S := s.ms.1, ks := s.ms.2.1, took := s.dm.2.1, ws := s.ms.2.2.1 }) rfl rfl st6' ?_ M6 D6 hl6
        rw [le6.d]
        exact st6.kp _ _ L5.ob hh6
      refine augf L6.ob T.cl_Floor T.n_Floor_beats (fl_beats _) (fl_len _) (fl_put_beats _ _) ?_ -- self.beats += 1
      generalize e7 : upd H6 a.h _ = H7
      have k7 : Kept [a.h] H6 H7 := by rw [← e7]; exact (Kept.refl _ _).put (by simp)
      have f7 : ∀ b, H7 b = none → H6 b = none := fun b h => by rw [← e7] at h; exact upd_none h
      have in7 : ∀ b ∈ [a.h], ∃ u, H6 b = some u ∧ notTup u = true := fun b hb => by
        have e : b = a.h := by simpa using hb
        rw [e]
        exact ⟨_, L6.ob, rfl⟩
      have st7 : Stp a.own d6.foot H6 d6.foot H7 := Stp.of (k7.mono (fun x hx => by
        have e : x = a.h := by simpa using hx
        rw [e]
        exact List.mem_append.mpr (.inl (by simp [FA.own])))) f7
      have no1 : ∀ {b : Addr}, b ≠ a.h → b ∉ [a.h] := fun h => by simpa using h
      have L7 : FlAt K H7 { a with da := d6 } s.next (s.gnext g) := by
        refine L6.change (s' := s.next) rfl rfl st7 (by rw [← e7]; exact upd_same) (L6.mc.stay k7 (fun b hb => no1 ?_) in7) (L6.dv.stay k7 (fun b hb => no1 (fun z => L6.ap a.h (by simp [FA.own]) (by rw [← z]; exact hb))) in7) (k7 _ _ L6.wd (no1 (Ne.symm hlw)))
        simp only [List.mem_cons] at hb
        rcases hb with rfl | rfl | rfl | h
        · exact Ne.symm L6.hm
        · exact lst_ne_ins L6.mc.hc L6.ob
        · exact lst_ne_ins L6.mc.hk L6.ob
        · cases h
      refine ⟨_, rfl, ?_⟩ -- moved
      refine ⟨_, rfl, ?_⟩ -- done
      refine ⟨by show 2 ≤ sizeLine; decide, fun p hp => ?_⟩ -- (moved, done)
      have k04 : Stp a.own a.da.foot H d3.foot H4 := k03.trans (Stp.same s4)
      have k05 := k04.trans st5'
      have k07 := (k05.trans st6').trans st7
      have hp0 : H p = none := k07.fr _ hp
      have s8 : Same H7 (upd H7 p (.tup [mv, dv])) := Same.new (Same.refl _) hp
      have k08 : Stp a.own a.da.foot H d6.foot (upd H7 p (.tup [mv, dv])) := k07.trans (Stp.same s8)
      have inF5 : ∀ b ∈ a.own ++ d5.foot, ∃ u, H5 b = some u ∧ notTup u = true := L5.inF
      have inF6 : ∀ b ∈ a.own ++ d6.foot, ∃ u, H6 b = some u ∧ notTup u = true := L6.inF
      have t7 : ∀ q us, H6 q = some (.tup us) → upd H7 p (.tup [mv, dv]) q = some (.tup us) := fun q us h => s8 _ _ (st7.tup inF6 q us h)
      refine q _ { a with da := d6 } _ ⟨rfl, rfl, rfl, (le3.trans le5).trans le6⟩ (L7.same s8) k08.all ⟨p, mv, dv, rfl, hp0, upd_same, ?_, ?_⟩
      · exact (t5.early k04.fr).keep (fun q us h => t7 q us (st6'.tup inF5 q us h))
      · exact (t6.early k05.fr).keep t7
def rowV (s : HS) : V := if s.S.row = s.prog.length then .non else .int s.S.row
structure ShownAt (H H' : Hp) (p c w' k g : Addr) (ps : List Addr) (s : HS) : Prop where
  tup : H' p = some (.tup [.int s.beats, rowV s, .ref c, .ref w', .ref k, .ref g])
  hc : H' c = some (.lst (s.S.cells.map V.int))
  hw : H' w' = some (.lst (s.ws.map V.int))
  hk : H' k = some (.lst (s.S.marks.map V.bl))
  hg : TupsAt H' g ps ((goFrom 0 s.ks).map goV)
  np : H p = none
  nc : H c = none
  nw : H w' = none
  nk : H k = none
  ng : H g = none
  nd : [c, w', k, g].Nodup
def sp_Floor_seen (K : PySem.W.Frag) : Sp := fun vs H Q _ => ∃ (a : FA) (s : HS) (g : GH), vs = [.ref a.h] ∧ FlAt K H a s g ∧ HOk s ∧ ∀ H' p c w' k g ps, ShownAt H H' p c w' k g ps s → Same H H' → Q (.ref p) H'
theorem ok_Floor_seen (T : T w K mg) : FnR P w K mg base CX0 4 (He.ma K (He.ga K "Floor") "seen") (sp_Floor_seen K) := by
  have F_Machine_ended : FnR P w K mg base CX0 1 _ _ := ok_Machine_ended T
  have F_Device_shown_on : FnR P w K mg base CX0 3 _ _ := ok_Device_shown_on T
  obtain ⟨fd, F⟩ := T.f_Floor_seen
  refine F.r sc_Floor_seen (fun _ _ _ _ _ _ us hl => match us, hl with | [_], _ => rfl) (fun vs H Q E h => ?_) (fun cdv A outer s0 H vs Q E hr h => ?_)
  · obtain ⟨_, _, _, rfl, _⟩ := h
    rfl
  · obtain ⟨a, s, g, rfl, L, O, q⟩ := h
    refine ⟨_, (pss_cons (ps_set (i := 1) sc_Floor_seen.nd rfl (Or.inl rfl) (pe_fld (pv 0) rfl))
      (pss_cons (ps_set (i := 2) sc_Floor_seen.nd rfl (Or.inl rfl) (pe_ifExp (pt_val (pe_mth0R (pv 1) T.cl_Machine T.m_Machine_ended F_Machine_ended (hr.mono (by decide)))) pe_non (pe_fld (pv 1) rfl)))
      (pss_one (ps_ret (pe_tup (pa_cons (pe_fld (pv 0) rfl) (pa_cons (pv 2) (pa_cons (pe_callTy call_list_of rfl T.u_list (by decide +kernel) (pa_cons (pe_fld (pv 1) rfl) pa_nil)) (pa_cons (pe_callTy call_list_of rfl T.u_list (by decide +kernel) (pa_cons (pe_fld (pv 0) rfl) pa_nil)) (pa_cons (pe_callTy call_list_of rfl T.u_list (by decide +kernel) (pa_cons (pe_fld (pv 1) rfl) pa_nil)) (pa_cons (pe_mth0R (pe_fld (pv 0) rfl) T.cl_Device T.m_Device_shown_on F_Device_shown_on (hr.mono (by decide))) pa_nil))))))))))), ?_⟩
    refine ⟨_, rfl, _, _, _, _, _, rfl, L.ob, T.cl_Floor, T.n_Floor_machine, fl_machine _, ?_⟩
    refine ⟨_, rfl, ?_⟩ -- machine
    refine ⟨_, _, _, rfl, L.mc.ob, mc_no_ended _, ?_⟩
    refine ⟨_, _, _, _, _, _, _, _, rfl, L.mc, ?_⟩ -- machine.ended()
    refine ⟨_, rfl, ?_⟩ -- test
    have fin : ∀ σ : L2.St, σ[0]? = some (some (.ref a.h)) → σ[1]? = some (some (.ref a.m)) → σ[2]? = some (some (rowV s)) →
        tTup (tCons (tFld K (tVar 0) "beats") (tCons (tVar 2) (tCons (tCB (fun xs H Q => ∃ p ys, xs = [.ref p] ∧ (SqL K H p ys ∨ SqT K H p ys) ∧ ∀ l, H l = none → Q (.ref l) (upd H l (.lst ys))) (tCons (tFld K (tVar 1) "cells") tNil)) (tCons (tCB (fun xs H Q => ∃ p ys, xs = [.ref p] ∧ (SqL K H p ys ∨ SqT K H p ys) ∧ ∀ l, H l = none → Q (.ref l) (upd H l (.lst ys))) (tCons (tFld K (tVar 0) "words") tNil))
          (tCons (tCB (fun xs H Q => ∃ p ys, xs = [.ref p] ∧ (SqL K H p ys ∨ SqT K H p ys) ∧ ∀ l, H l = none → Q (.ref l) (upd H l (.lst ys))) (tCons (tFld K (tVar 1) "marks") tNil)) (tCons (tMethR (He.ga K "Device") "shown_on" (sp_Device_shown_on K) E0 (tFld K (tVar 0) "device") tNil) tNil)))))) σ H Q := by
      intro σ h0 h1 h2
      refine ⟨_, h0, _, _, _, _, _, rfl, L.ob, T.cl_Floor, T.n_Floor_beats, fl_beats _, ?_⟩
      refine ⟨_, h2, ?_⟩ -- row
      refine ⟨_, h1, _, _, _, _, _, rfl, L.mc.ob, T.cl_Machine, T.n_Machine_cells, mc_cells _, ?_⟩
      refine ⟨_, _, rfl, .inl (SqL.of L.mc.hc), fun c hc => ?_⟩ -- list(machine.cells)
      have s1 : Same H (upd H c (.lst (s.S.cells.map V.int))) := Same.new (Same.refl H) hc
      have L1 := L.same s1
      have hc1 : upd H c (.lst (s.S.cells.map V.int)) c = some (.lst (s.S.cells.map V.int)) := upd_same
      generalize upd H c (.lst (s.S.cells.map V.int)) = H1 at s1 L1 hc1
      refine ⟨_, h0, _, _, _, _, _, rfl, L1.ob, T.cl_Floor, T.n_Floor_words, fl_words _, ?_⟩
      refine ⟨_, _, rfl, .inl (SqL.of L1.wd), fun w' hw => ?_⟩ -- list(self.words)
      have s2 : Same H1 (upd H1 w' (.lst (s.ws.map V.int))) := Same.new (Same.refl H1) hw
      have L2 := L1.same s2
      have hw2 : upd H1 w' (.lst (s.ws.map V.int)) w' = some (.lst (s.ws.map V.int)) := upd_same
      generalize upd H1 w' (.lst (s.ws.map V.int)) = H2 at s2 L2 hw2
      refine ⟨_, h1, _, _, _, _, _, rfl, L2.mc.ob, T.cl_Machine, T.n_Machine_marks, mc_marks _, ?_⟩
      refine ⟨_, _, rfl, .inl (SqL.of L2.mc.hk), fun k hk => ?_⟩ -- list(machine.marks)
      have s3 : Same H2 (upd H2 k (.lst (s.S.marks.map V.bl))) := Same.new (Same.refl H2) hk
      have L3 := L2.same s3
      have hk3 : upd H2 k (.lst (s.S.marks.map V.bl)) k = some (.lst (s.S.marks.map V.bl)) := upd_same
      generalize upd H2 k (.lst (s.S.marks.map V.bl)) = H3 at s3 L3 hk3
      refine ⟨_, h0, _, _, _, _, _, rfl, L3.ob, T.cl_Floor, T.n_Floor_device, fl_device _, ?_⟩
      refine ⟨_, _, _, rfl, L3.dv.ob, dv_no_shown_on _, ?_⟩
      refine ⟨a.da, _, _, _, rfl, L3.dv, O.l6, fun H4 g ps hg tg s4 => ?_⟩ -- self.device.goings()
      refine ⟨by show 6 ≤ sizeLine; decide, fun p hp => ?_⟩
      have s5 : Same H4 (upd H4 p (.tup [.int s.beats, rowV s, .ref c, .ref w', .ref k, .ref g])) := Same.new (Same.refl H4) hp
      have s02 := s1.trans s2
      have s03 := s02.trans s3
      have s04 := s03.trans s4
      refine q _ p c w' k g ps ⟨upd_same, ?_, ?_, ?_, tg.keep s5, Same.free s04 hp, hc, Same.free s1 hw, Same.free s02 hk, Same.free s03 hg, ?_⟩ (s04.trans s5)
      · exact s5 _ _ (s4 _ _ (s3 _ _ (s2 _ _ hc1)))
      · exact s5 _ _ (s4 _ _ (s3 _ _ hw2))
      · exact s5 _ _ (s4 _ _ hk3)
      · have cw : c ≠ w' := ne_of_none hc1 hw
        have ck : c ≠ k := ne_of_none (s2 _ _ hc1) hk
        have wk : w' ≠ k := ne_of_none hw2 hk
        have cg : c ≠ g := ne_of_none (s3 _ _ (s2 _ _ hc1)) hg
        have wg : w' ≠ g := ne_of_none (s3 _ _ hw2) hg
        have kg : k ≠ g := ne_of_none hk3 hg
        simp [cw, ck, wk, cg, wg, kg]
    unfold rowV at fin
    refine ite2 (fun c1 => ?_) (fun c1 => ?_)
    · have e : s.S.row = s.prog.length := of_decide_eq_true c1
      rw [if_pos e] at fin
      exact fin _ rfl rfl rfl
    · have e : ¬ s.S.row = s.prog.length := fun z => c1 (decide_eq_true z)
      rw [if_neg e] at fin
      refine ⟨_, rfl, _, _, _, _, _, rfl, L.mc.ob, T.cl_Machine, T.n_Machine_row, mc_row _, ?_⟩
      exact fin _ rfl rfl rfl
end
end SB

set_option Elab.async false
set_option linter.all false
set_option maxRecDepth 100000
set_option maxHeartbeats 2000000
namespace SB
open PySem L2
section
variable {P : Program} {w : World} {K : PySem.W.Frag} {mg : Str → Option Value} {base : Heap} {H H' : Hp} {a : FA} {s : HS} {g : GH}
def HS.at0 (prog : List Row) (asks : List (Int × Int)) (ks : List Wk) (ws : List Int) : HS := ⟨prog, asks, S0, ks.map Wk.fresh, false, ws, 0⟩
def sp_Floor_init (K : PySem.W.Frag) : Sp := fun vs H Q _ => ∃ (h dh pa wl ml al : Addr) (rs ts qs : List Addr) (prog : List Row) (ks : List Wk) (ws : List Int) (as : List (Int × Int)), vs = [.ref h, .ref pa, .ref wl, .ref ml, .ref al] ∧ H h = some (.ins (cFloor K) dh []) ∧
  ProgAt K H pa rs prog ∧ WorksAt K H wl ts ks ∧ ks.length ≤ 6 ∧ (∀ k ∈ ks, 0 < k.many ∧ k.many ≤ 16) ∧ SqL K H ml (ws.map V.int) ∧ AsksAt K H al qs as ∧
  ∀ H' (a : FA), a.h = h → FlAt K H' a (HS.at0 prog as ks ws) (GH.none ks.length) → (∀ b ∈ a.foot, b ≠ h → H b = none) → H a.al = none → Kept [h] H H' → Q .non H'
theorem ok_Floor_init (T : T w K mg) : FnR P w K mg base CX0 5 (He.ma K (He.ga K "Floor") "__init__") (sp_Floor_init K) := by
  have F_Machine_init : FnR P w K mg base CX0 1 _ _ := ok_Machine_init T
  have F_Device_init : FnR P w K mg base CX0 3 _ _ := ok_Device_init T
  obtain ⟨fd, F⟩ := T.f_Floor_init
  refine F.r sc_Floor_init (fun _ _ _ _ _ _ us hl => match us, hl with | [_, _, _, _, _], _ => rfl) (fun vs H Q E h => ?_) (fun cdv A outer s0 H vs Q E hr h => ?_)
  · obtain ⟨_, _, _, _, _, _, _, _, _, _, _, _, _, rfl, _⟩ := h
    rfl
  · obtain ⟨h, dh, pa, wl, ml, al, rs, ts, qs, prog, ks, ws, as, rfl, hself, Pr, W, w6, wok, Ml, As, q⟩ := h
    refine ⟨_, (pss_cons (ps_fld (pv 0) (pe_mkR T.mk_Machine F_Machine_init (hr.mono (by decide)) rfl T.g_Machine (pa_cons (pv 1) pa_nil)) rfl)
      (pss_cons (ps_fld (pv 0) (pe_mkR T.mk_Device F_Device_init (hr.mono (by decide)) rfl T.g_Device (pa_cons (pv 2) pa_nil)) rfl)
      (pss_cons (ps_fld (pv 0) (pe_callTy call_list_of rfl T.u_list (by decide +kernel) (pa_cons (pv 3) pa_nil)) rfl)
      (pss_cons (ps_fld (pv 0) (pe_callTy call_list_of rfl T.u_list (by decide +kernel) (pa_cons (pv 4) pa_nil)) rfl)
      (pss_one (ps_fld (pv 0) pe_int rfl)))))), ?_⟩
    have s3 : Same H H := Same.refl H
    refine ⟨_, rfl, ?_⟩ -- program
    intro m dm nm ndm nem
    have s4 : Same H (upd (upd H dm (.own m)) m (.ins (cMachine K) dm [])) := fun b o e => by
      rw [upd_ne (ne_of_none e nm), upd_ne (ne_of_none e ndm)]
      exact e
    refine ⟨m, dm, pa, rs, prog, rfl, upd_same, (Pr.same s3).same s4, fun H5 c k M5 nc nk k5 => ⟨rfl, ?_⟩⟩ -- Machine(program)
    have s5' : Same H H5 := fun b o e => k5 b o (s4 b o e) (by simpa using ne_of_none e nm)
    have s5 := s3.trans s5'
    have nm0 : H m = none := Same.free s3 nm
    have nc3 : H c = none := Same.free s4 nc
    have nk3 : H k = none := Same.free s4 nk
    have nc0 : H c = none := Same.free s3 nc3
    have nk0 : H k = none := Same.free s3 nk3
    refine stf (s5 _ _ hself) T.cl_Floor T.n_Floor_machine (by decide) rfl ?_ -- self.machine = Machine(program)
    have hm : m ≠ h := ne_of_none' hself nm0
    have hc : c ≠ h := ne_of_none' hself nc0
    have hk : k ≠ h := ne_of_none' hself nk0
    have k6 : Kept [h] H5 (upd H5 h (.ins (cFloor K) dh (putF "machine" (V.ref m) []))) := (Kept.refl _ _).put (by simp)
    have inh : ∀ b ∈ [h], ∃ u, H5 b = some u ∧ notTup u = true := fun b hb => by
      have e : b = h := by simpa using hb
      rw [e]
      exact ⟨_, s5 _ _ hself, rfl⟩
    have M6 : McAt K (upd H5 h (.ins (cFloor K) dh (putF "machine" (V.ref m) []))) m dm pa rs prog c k S0 := ⟨k6 _ _ M5.ob (by simpa using hm), M5.pr.keep k6 inh, k6 _ _ M5.hc (by simpa using hc), k6 _ _ M5.hk (by simpa using hk), M5.ck⟩
    have hh6 : upd H5 h (.ins (cFloor K) dh (putF "machine" (V.ref m) [])) h = some (.ins (cFloor K) dh (putF "machine" (V.ref m) [])) := upd_same
    have kk6 : Kept [h] H (upd H5 h (.ins (cFloor K) dh (putF "machine" (V.ref m) []))) := (Kept.same s5).trans k6
    generalize upd H5 h (.ins (cFloor K) dh (putF "machine" (V.ref m) [])) = H6 at M6 hh6 kk6
    have in0 : ∀ b ∈ [h], ∃ u, H b = some u ∧ notTup u = true := fun b hb => by
      have e : b = h := by simpa using hb
      rw [e]
      exact ⟨_, hself, rfl⟩
    have free0 : ∀ {H9 : Hp} {o : HO} {y : Addr}, Kept [h] H H9 → H9 h = some o → H9 y = none → H y = none := fun {H9 o y} k9 e9 hy => by
      have yh : y ≠ h := fun z => by rw [z, e9] at hy; cases hy
      exact k9.free hy (by simpa using yh)
    have lst_keep : ∀ {H9 : Hp} {b : Addr} {xs : List V}, Kept [h] H H9 → SqL K H b xs → SqL K H9 b xs := fun {H9 b xs} k9 hb => by
      rcases hb with (hb | ⟨o, hb⟩) | hb
      · exact .inl (.inl (k9 _ _ hb (by simpa using lst_ne_ins hb hself)))
      · exact .inl (.inr ⟨o, k9 _ _ hb (by
          have : b ≠ h := ne_of hb hself (by intro z; cases z)
          simpa using this)⟩)
      · exact .inr hb
    have W6 : WorksAt K H6 wl ts ks := ⟨lst_keep kk6 W.lst, W.len, fun j t x h1 h2 => tup_keep (W.at_ j t x h1 h2) kk6 in0⟩
    refine ⟨_, rfl, ?_⟩ -- works
    intro d dd nd ndd ned
    have s7 : Same H6 (upd (upd H6 dd (.own d)) d (.ins (cDevice K) dd [])) := fun b o e => by
      rw [upd_ne (ne_of_none e nd), upd_ne (ne_of_none e ndd)]
      exact e
    refine ⟨d, dd, wl, ts, ks, rfl, upd_same, W6.same s7, by rw [W.len]; exact w6, wok, fun H8 da had D8 nfd k8 f8 => ⟨rfl, ?_⟩⟩ -- Device(works)
    subst had
    have s8 : Same H6 H8 := fun b o e => k8 b o (s7 b o e) (by simpa using ne_of_none e nd)
    have nd0 : H da.d = none := free0 kk6 hh6 nd
    have nf6 : ∀ x ∈ da.foot, H6 x = none := fun x hx => by
      by_cases e : x = da.d
      · rw [e]; exact nd
      · exact Same.free s7 (nfd x hx e)
    have nf0 : ∀ x ∈ da.foot, H x = none := fun x hx => free0 kk6 hh6 (nf6 x hx)
    have hh8 := s8 _ _ hh6
    have M8 := M6.same s8
    have nfo : ∀ {x : Addr} {o : HO}, H6 x = some o → x ∉ da.foot := fun {x o} e z => by rw [nf6 x z] at e; cases e
    have hf : h ∉ da.foot := nfo hh6
    have kk8 : Kept [h] H H8 := kk6.trans (Kept.same s8)
    refine stf hh8 T.cl_Floor T.n_Floor_device (lt1000 (by kernel_rfl)) rfl ?_ -- self.device = Device(works)
    generalize e9 : upd H8 h _ = H9
    have k9 : Kept [h] H8 H9 := by rw [← e9]; exact (Kept.refl _ _).put (by simp)
    have in8 : ∀ b ∈ [h], ∃ u, H8 b = some u ∧ notTup u = true := fun b hb => by
      have e : b = h := by simpa using hb
      rw [e]
      exact ⟨_, hh8, rfl⟩
    have mne : ∀ b ∈ [m, c, k], b ∉ [h] := fun b hb z => by
      have e : b = h := by simpa using z
      simp only [List.mem_cons] at hb
      rcases hb with rfl | rfl | rfl | hb
      · exact hm e
      · exact hc e
      · exact hk e
      · cases hb
    have dne : ∀ b ∈ da.foot, b ∉ [h] := fun b hb z => by
      have e : b = h := by simpa using z
      exact hf (by rw [← e]; exact hb)
    have M9 : McAt K H9 m dm pa rs prog c k S0 := M8.stay k9 mne in8
    have D9 : DevAt K H9 da (ks.map Wk.fresh) false (GH.none ks.length) := D8.stay k9 dne in8
    have hh9 : H9 h = some (.ins (cFloor K) dh (putF "device" (V.ref da.d) (putF "machine" (V.ref m) []))) := by rw [← e9]; exact upd_same
    have kk9 := kk8.trans k9
    refine ⟨_, rfl, ?_⟩ -- memory
    refine ⟨_, _, rfl, .inl (lst_keep kk9 Ml), fun lw hlw => ?_⟩ -- list(memory)
    have slw : Same H9 (upd H9 lw (.lst (ws.map V.int))) := Same.new (Same.refl _) hlw
    have nlw0 : H lw = none := free0 kk9 hh9 hlw
    have lwh : lw ≠ h := ne_of_none' hself nlw0
    refine stf (slw _ _ hh9) T.cl_Floor T.n_Floor_words (lt1000 (by kernel_rfl)) rfl ?_ -- self.words = list(memory)
    generalize e10 : upd (upd H9 lw (.lst (ws.map V.int))) h _ = H10
    have M9' := M9.same slw
    have D9' := D9.same slw
    have k10 : Kept [h] (upd H9 lw (.lst (ws.map V.int))) H10 := by rw [← e10]; exact (Kept.refl _ _).put (by simp)
    have in9 : ∀ b ∈ [h], ∃ u, upd H9 lw (.lst (ws.map V.int)) b = some u ∧ notTup u = true := fun b hb => by
      have e : b = h := by simpa using hb
      rw [e]
      exact ⟨_, slw _ _ hh9, rfl⟩
    have M10 : McAt K H10 m dm pa rs prog c k S0 := M9'.stay k10 mne in9
    have D10 : DevAt K H10 da (ks.map Wk.fresh) false (GH.none ks.length) := D9'.stay k10 dne in9
    have hh10 : H10 h = some (.ins (cFloor K) dh (putF "words" (V.ref lw) (putF "device" (V.ref da.d) (putF "machine" (V.ref m) [])))) := by rw [← e10]; exact upd_same
    have hlw10 : H10 lw = some (.lst (ws.map V.int)) := by rw [← e10, upd_ne lwh]; exact upd_same
    have kk10 : Kept [h] H H10 := (kk9.trans (Kept.same slw)).trans k10
    refine ⟨_, rfl, ?_⟩ -- asks
    refine ⟨_, _, rfl, .inl (lst_keep kk10 As.lst), fun al' hal => ?_⟩ -- list(asks)
    have sal : Same H10 (upd H10 al' (.lst (qs.map V.ref))) := Same.new (Same.refl _) hal
    have nal0 : H al' = none := free0 kk10 hh10 hal
    have alh : al' ≠ h := ne_of_none' hself nal0
    refine stf (sal _ _ hh10) T.cl_Floor T.n_Floor_asks (lt1000 (by kernel_rfl)) rfl ?_ -- self.asks = list(asks)
    refine stf upd_same T.cl_Floor T.n_Floor_beats (lt1000 (by kernel_rfl)) (fl_made m da.d lw al' 0) ?_ -- self.beats = 0
    rw [upd_upd]
    generalize e11 : upd (upd H10 al' (.lst (qs.map V.ref))) h _ = H11
    have M10' := M10.same sal
    have D10' := D10.same sal
    have k11 : Kept [h] (upd H10 al' (.lst (qs.map V.ref))) H11 := by rw [← e11]; exact (Kept.refl _ _).put (by simp)
    have in10 : ∀ b ∈ [h], ∃ u, upd H10 al' (.lst (qs.map V.ref)) b = some u ∧ notTup u = true := fun b hb => by
      have e : b = h := by simpa using hb
      rw [e]
      exact ⟨_, sal _ _ hh10, rfl⟩
    have M11 : McAt K H11 m dm pa rs prog c k S0 := M10'.stay k11 mne in10
    have D11 : DevAt K H11 da (ks.map Wk.fresh) false (GH.none ks.length) := D10'.stay k11 dne in10
    have hh11 : H11 h = some (.ins (cFloor K) dh (flF ⟨m, da.d, lw, al', 0⟩)) := by rw [← e11]; exact upd_same
    have hlw11 : H11 lw = some (.lst (ws.map V.int)) := k11 _ _ (sal _ _ hlw10) (by simpa using lwh)
    have hal11 : H11 al' = some (.lst (qs.map V.ref)) := k11 _ _ upd_same (by simpa using alh)
    have kk11 : Kept [h] H H11 := (kk10.trans (Kept.same sal)).trans k11
    have lwf : lw ∉ da.foot := fun z => by
      obtain ⟨u, hu, _⟩ := D9.inF lw z
      rw [hlw] at hu
      cases hu
    have alf : al' ∉ da.foot := fun z => by
      obtain ⟨u, hu, _⟩ := D10.inF al' z
      rw [hal] at hu
      cases hu
    refine q H11 ⟨h, dh, m, dm, pa, c, k, lw, al', rs, qs, da⟩ rfl ⟨hh11, M11, D11, hlw11, hal11, As.len, fun j t x h1 h2 => tup_keep (As.at_ j t x h1 h2) kk11 in0, fun z => ?_, fun b hb => ?_, Ne.symm hm, ?_, ?_⟩ ?_ nal0 kk11
    · rcases List.mem_append.mp z with z | z
      · have z' : al' ∈ [h, m, c, k, lw] := z
        simp only [List.mem_cons] at z'
        rcases z' with z | z | z | z | z | z
        · exact alh z
        · exact (ne_of_none M10.ob hal) z.symm
        · exact (ne_of_none M10.hc hal) z.symm
        · exact (ne_of_none M10.hk hal) z.symm
        · exact (ne_of_none hlw10 hal) z.symm
        · cases z
      · exact alf z
    · have hb' : b ∈ [h, m, c, k, lw] := hb
      simp only [List.mem_cons] at hb'
      rcases hb' with rfl | rfl | rfl | rfl | rfl | z
      · exact hf
      · exact nfo M6.ob
      · exact nfo M6.hc
      · exact nfo M6.hk
      · exact lwf
      · cases z
    · exact Ne.symm (ne_of_none M9.hc hlw)
    · exact Ne.symm (ne_of_none M9.hk hlw)
    · intro b hb hbh
      rcases List.mem_append.mp hb with hb | hb
      · have hb' : b ∈ [h, m, c, k, lw] := hb
        simp only [List.mem_cons] at hb'
        rcases hb' with rfl | rfl | rfl | rfl | rfl | z
        · exact absurd rfl hbh
        · exact nm0
        · exact nc0
        · exact nk0
        · exact nlw0
        · cases z
      · exact nf0 b hb
def sp_check_hall (K : PySem.W.Frag) : Sp := fun vs H Q _ => ∃ (pa wl ml al : Addr) (rs ts qs : List Addr) (prog : List Row) (ks : List Wk) (ws : List Int) (as : List (Int × Int)), vs = [.ref pa, .ref wl, .ref ml, .ref al] ∧
  ProgAt K H pa rs prog ∧ 0 < prog.length ∧ prog.length ≤ 40 ∧ (∀ r ∈ prog, r.ok prog.length) ∧ WorksAt K H wl ts ks ∧ ks.length ≤ 6 ∧ (∀ k ∈ ks, WOk ks.length k) ∧ SqL K H ml (ws.map V.int) ∧ 4 ≤ ws.length ∧ ws.length ≤ 32 ∧ (∀ x ∈ ws, rg 0 999 x) ∧ AsksAt K H al qs as ∧ AOk ks.length as ∧ ∀ H', Same H H' → Q .non H'
theorem ok_check_hall (T : T w K mg) : FnR P w K mg base CX0 5 (He.ga K "check_hall") (sp_check_hall K) := by
  have F_check_program : FnR P w K mg base CX0 4 _ _ := ok_check_program T
  have F_check_works : FnR P w K mg base CX0 4 _ _ := ok_check_works T
  have F_check_memory : FnR P w K mg base CX0 3 _ _ := ok_check_memory T
  have F_check_asks : FnR P w K mg base CX0 4 _ _ := ok_check_asks T
  obtain ⟨fd, F⟩ := T.f_check_hall
  refine F.r sc_check_hall (fun _ _ _ _ _ _ us hl => match us, hl with | [_, _, _, _], _ => rfl) (fun vs H Q E h => ?_) (fun cdv A outer s0 H vs Q E hr h => ?_)
  · obtain ⟨_, _, _, _, _, _, _, _, _, _, _, rfl, _⟩ := h
    rfl
  · obtain ⟨pa, wl, ml, al, rs, ts, qs, prog, ks, ws, as, rfl, Pr, p0, p40, pok, W, w6, wok, Ml, m4, m32, mok, As, aok, q⟩ := h
    refine ⟨_, (pss_cons (ps_expr (pe_callR F_check_program (hr.mono (by decide)) rfl T.g_check_program T.k_check_program (pa_cons (pv 0) pa_nil)))
      (pss_cons (ps_expr (pe_callR F_check_works (hr.mono (by decide)) rfl T.g_check_works T.k_check_works (pa_cons (pv 1) pa_nil)))
      (pss_cons (ps_expr (pe_callR F_check_memory (hr.mono (by decide)) rfl T.g_check_memory T.k_check_memory (pa_cons (pv 2) pa_nil)))
      (pss_one (ps_expr (pe_callR F_check_asks (hr.mono (by decide)) rfl T.g_check_asks T.k_check_asks (pa_cons (pv 3) (pa_cons (pv 1) pa_nil)))))))), ?_⟩
    refine ⟨_, rfl, pa, rs, prog, rfl, Pr, p0, p40, pok, fun H1 s1 => ?_⟩ -- check_program(program)
    refine ⟨_, rfl, wl, ts, ks, rfl, W.same s1, w6, wok, fun H2 s2' => ?_⟩ -- check_works(works)
    have s2 := s1.trans s2'
    refine ⟨_, rfl, ml, ws, rfl, s2.seq Ml, m4, m32, mok, ?_⟩ -- check_memory(memory)
    refine ⟨_, rfl, _, rfl, al, wl, qs, ts, as, ks, rfl, As.same s2, W.same s2, aok, fun H3 s3' => ?_⟩ -- check_asks(asks, works)
    exact q _ (s2.trans s3')
structure HA where
  (h dh : Addr)
  f : FA
def HA.al (a : HA) : Addr := a.f.al
def HA.foot (a : HA) : List Addr := [a.h] ++ a.f.foot
structure HallAt (K : PySem.W.Frag) (H : Hp) (a : HA) (s : HS) (g : GH) : Prop where
  ob : H a.h = some (.ins (cHall K) a.dh (hlF ⟨a.f.h⟩))
  fl : FlAt K H a.f s g
  nh : a.h ∉ a.f.foot
section
variable {a a' : HA}
theorem HallAt.als (L : HallAt K H a s g) : H a.al = some (.lst (a.f.qs.map V.ref)) := L.fl.als
theorem HallAt.inF (L : HallAt K H a s g) : ∀ b ∈ a.foot, ∃ u, H b = some u ∧ notTup u = true := fun b hb => by
  rcases List.mem_append.mp hb with hb | hb
  · have e : b = a.h := by simpa using hb
    rw [e]
    exact ⟨_, L.ob, rfl⟩
  · exact L.fl.inF b hb
theorem HallAt.nal (L : HallAt K H a s g) : a.al ∉ a.foot := fun z => by
  rcases List.mem_append.mp z with z | z
  · have e : a.al = a.h := by simpa using z
    exact (lst_ne_ins L.als L.ob) e
  · exact L.fl.nal z
theorem HallAt.same (L : HallAt K H a s g) (e : Same H H') : HallAt K H' a s g := ⟨e _ _ L.ob, L.fl.same e, L.nh⟩
theorem HallAt.stay (L : HallAt K H a s g) {as : List Addr} (k : Kept as H H') (h : ∀ b ∈ a.foot, b ∉ as) (h2 : a.al ∉ as) (hn : ∀ b ∈ as, ∃ u, H b = some u ∧ notTup u = true) : HallAt K H' a s g :=
  ⟨k _ _ L.ob (h _ (List.mem_append.mpr (.inl (List.mem_singleton.mpr rfl)))), L.fl.stay k (fun b hb => h b (List.mem_append.mpr (.inr hb))) h2 hn, L.nh⟩
structure HLe (a a' : HA) : Prop where
  h : a'.h = a.h
  al : a'.al = a.al
  f : FLe a.f a'.f
theorem HLe.refl (a : HA) : HLe a a := ⟨rfl, rfl, FLe.refl _⟩
theorem HLe.trans {a b c : HA} (x : HLe a b) (y : HLe b c) : HLe a c := ⟨y.h.trans x.h, y.al.trans x.al, x.f.trans y.f⟩
def sp_Hall_beat (K : PySem.W.Frag) : Sp := fun vs H Q _ => ∃ (a : HA) (s : HS) (g : GH), vs = [.ref a.h] ∧ HallAt K H a s g ∧ HOk s ∧ ∀ H' a' v, HLe a a' → HallAt K H' a' s.next (s.gnext g) → Step a.foot H a'.foot H' → ToldB H H' v s.dm.2.2.2 s.ms.2.2.2 → Q v H'
theorem ok_Hall_beat (T : T w K mg) : FnR P w K mg base CX0 7 (He.ma K (He.ga K "Hall") "beat") (sp_Hall_beat K) := by
  have F_Floor_pass_beat : FnR P w K mg base CX0 6 _ _ := ok_Floor_pass_beat T
  obtain ⟨fd, F⟩ := T.f_Hall_beat
  refine F.r sc_Hall_beat (fun _ _ _ _ _ _ us hl => match us, hl with | [_], _ => rfl) (fun vs H Q E h => ?_) (fun cdv A outer s0 H vs Q E hr h => ?_)
  · obtain ⟨_, _, _, rfl, _⟩ := h
    rfl
  · obtain ⟨a, s, g, rfl, L, O, q⟩ := h
    refine ⟨_, (pss_one (ps_ret (pe_mth0R (pe_fld (pv 0) rfl) T.cl_Floor T.m_Floor_pass_beat F_Floor_pass_beat (hr.mono (by decide))))), ?_⟩
    refine ⟨_, rfl, _, _, _, _, _, rfl, L.ob, T.cl_Hall, T.n_Hall_floor, hl_floor _, ?_⟩
    refine ⟨_, _, _, rfl, L.fl.ob, fl_no_pass_beat _, ?_⟩
    refine ⟨a.f, s, g, rfl, L.fl, O, fun H' f' v le L' st t => ?_⟩
    have hh : H' a.h = some (.ins (cHall K) a.dh (hlF ⟨a.f.h⟩)) := st.kp _ _ L.ob L.nh
    refine q H' ⟨a.h, a.dh, f'⟩ v ⟨rfl, le.al, le⟩ ⟨?_, L', st.apart L.ob L.nh⟩ ((st.more [a.h]).all) t
    rw [← le.h] at hh
    exact hh
def sp_Hall_shown (K : PySem.W.Frag) : Sp := fun vs H Q _ => ∃ (a : HA) (s : HS) (g : GH), vs = [.ref a.h] ∧ HallAt K H a s g ∧ HOk s ∧ ∀ H' p c w' k g ps, ShownAt H H' p c w' k g ps s → Same H H' → Q (.ref p) H'
theorem ok_Hall_shown (T : T w K mg) : FnR P w K mg base CX0 5 (He.ma K (He.ga K "Hall") "shown") (sp_Hall_shown K) := by
  have F_Floor_seen : FnR P w K mg base CX0 4 _ _ := ok_Floor_seen T
  obtain ⟨fd, F⟩ := T.f_Hall_shown
  refine F.r sc_Hall_shown (fun _ _ _ _ _ _ us hl => match us, hl with | [_], _ => rfl) (fun vs H Q E h => ?_) (fun cdv A outer s0 H vs Q E hr h => ?_)
  · obtain ⟨_, _, _, rfl, _⟩ := h
    rfl
  · obtain ⟨a, s, g, rfl, L, O, q⟩ := h
    refine ⟨_, (pss_one (ps_ret (pe_mth0R (pe_fld (pv 0) rfl) T.cl_Floor T.m_Floor_seen F_Floor_seen (hr.mono (by decide))))), ?_⟩
    refine ⟨_, rfl, _, _, _, _, _, rfl, L.ob, T.cl_Hall, T.n_Hall_floor, hl_floor _, ?_⟩
    refine ⟨_, _, _, rfl, L.fl.ob, fl_no_seen _, ?_⟩
    exact ⟨a.f, s, g, rfl, L.fl, O, q⟩
def sp_Hall_init (K : PySem.W.Frag) : Sp := fun vs H Q _ => ∃ (h dh pa wl ml al : Addr) (rs ts qs : List Addr) (prog : List Row) (ks : List Wk) (ws : List Int) (as : List (Int × Int)), vs = [.ref h, .ref pa, .ref wl, .ref ml, .ref al] ∧ H h = some (.ins (cHall K) dh []) ∧
  ProgAt K H pa rs prog ∧ 0 < prog.length ∧ prog.length ≤ 40 ∧ (∀ r ∈ prog, r.ok prog.length) ∧ WorksAt K H wl ts ks ∧ ks.length ≤ 6 ∧ (∀ k ∈ ks, WOk ks.length k) ∧ SqL K H ml (ws.map V.int) ∧ 4 ≤ ws.length ∧ ws.length ≤ 32 ∧ (∀ x ∈ ws, rg 0 999 x) ∧ AsksAt K H al qs as ∧ AOk ks.length as ∧
  ∀ H' (a : HA), a.h = h → HallAt K H' a (HS.at0 prog as ks ws) (GH.none ks.length) → (∀ b ∈ a.foot, b ≠ h → H b = none) → H a.al = none → Kept [h] H H' → Q .non H'
theorem ok_Hall_init (T : T w K mg) : FnR P w K mg base CX0 7 (He.ma K (He.ga K "Hall") "__init__") (sp_Hall_init K) := by
  have F_check_hall : FnR P w K mg base CX0 5 _ _ := ok_check_hall T
  have F_Floor_init : FnR P w K mg base CX0 5 _ _ := ok_Floor_init T
  obtain ⟨fd, F⟩ := T.f_Hall_init
  refine F.r sc_Hall_init (fun _ _ _ _ _ _ us hl => match us, hl with | [_, _, _, _, _], _ => rfl) (fun vs H Q E h => ?_) (fun cdv A outer s0 H vs Q E hr h => ?_)
  · obtain ⟨_, _, _, _, _, _, _, _, _, _, _, _, _, rfl, _⟩ := h
    rfl
  · obtain ⟨h, dh, pa, wl, ml, al, rs, ts, qs, prog, ks, ws, as, rfl, hself, Pr, p0, p40, pok, W, w6, wok, Ml, m4, m32, mok, As, aok, q⟩ := h
    refine ⟨_, (pss_cons (ps_expr (pe_callR F_check_hall (hr.mono (by decide)) rfl T.g_check_hall T.k_check_hall (pa_cons (pv 1) (pa_cons (pv 2) (pa_cons (pv 3) (pa_cons (pv 4) pa_nil))))))
      (pss_one (ps_fld (pv 0) (pe_mkR T.mk_Floor F_Floor_init (hr.mono (by decide)) rfl T.g_Floor (pa_cons (pv 1) (pa_cons (pv 2) (pa_cons (pv 3) (pa_cons (pv 4) pa_nil))))) rfl))), ?_⟩
    refine ⟨_, rfl, _, rfl, _, rfl, _, rfl, pa, wl, ml, al, rs, ts, qs, prog, ks, ws, as, rfl, Pr, p0, p40, pok, W, w6, wok, Ml, m4, m32, mok, As, aok, fun H1 s1 => ?_⟩ -- check_hall(..)
    refine ⟨_, rfl, _, rfl, _, rfl, _, rfl, ?_⟩
    intro f df nf ndf nef
    have s2 : Same H1 (upd (upd H1 df (.own f)) f (.ins (cFloor K) df [])) := fun b o e => by
      rw [upd_ne (ne_of_none e nf), upd_ne (ne_of_none e ndf)]
      exact e
    have s12 := s1.trans s2
    refine ⟨f, df, pa, wl, ml, al, rs, ts, qs, prog, ks, ws, as, rfl, upd_same, Pr.same s12, W.same s12, w6, fun k hk => ?_, s12.seq Ml, As.same s12, fun H3 B hB L3 nB nal k3 => ⟨rfl, ?_⟩⟩ -- Floor(..)
    · have := (wok k hk).m
      obtain ⟨m1, m2⟩ := this
      omega
    subst hB
    have s3' : Same H1 H3 := fun b o e => k3 b o (s2 b o e) (by simpa using ne_of_none e nf)
    have s3 := s1.trans s3'
    have nB0 : ∀ b ∈ B.foot, H b = none := fun b hb => by
      by_cases e : b = B.h
      · rw [e]; exact Same.free s1 nf
      · exact Same.free s12 (nB b hb e)
    have nh : h ∉ B.foot := fun z => by
      rw [nB0 h z] at hself
      cases hself
    refine stf (s3 _ _ hself) T.cl_Hall T.n_Hall_floor (by decide) (hl_made B.h) ?_ -- self.floor = Floor(..)
    generalize e4 : upd H3 h _ = H4
    have k4 : Kept [h] H3 H4 := by rw [← e4]; exact (Kept.refl _ _).put (by simp)
    have in3 : ∀ b ∈ [h], ∃ u, H3 b = some u ∧ notTup u = true := fun b hb => by
      have e : b = h := by simpa using hb
      rw [e]
      exact ⟨_, s3 _ _ hself, rfl⟩
    have alh : B.al ≠ h := fun z => by
      have e1 := L3.als
      rw [z, s3 _ _ hself] at e1
      cases e1
    refine q H4 ⟨h, dh, B⟩ rfl ⟨by rw [← e4]; exact upd_same, L3.stay k4 (fun b hb z => nh (by
      have e : b = h := by simpa using z
      rw [← e]
      exact hb)) (by simpa using alh) in3, nh⟩ (fun b hb hbh => ?_) (Same.free s12 nal) ((Kept.same s3).trans k4)
    rcases List.mem_append.mp hb with hb | hb
    · exact absurd (by simpa using hb) hbh
    · exact nB0 b hb
end
end
end SB

set_option Elab.async false
set_option linter.all false
set_option maxRecDepth 100000
namespace L2
open PySem PySem.Spec PyProof.Rows
theorem tuple_mul1 (l : Addr) (items : Array Value) (n : Nat) (dd : Option Addr) (sl : Array (Option Value)) (u : Tok) :
    Meets (Builtin.«tuple.__mul__» ⟨[.ref l, .int 1 u], []⟩) (fun _ R s => s.heap.get? l = some { cls := .type "tuple", dict := dd, data := .seq items n, slots := sl } ∧ R (.ok (.ret (Value.ref l))) s) :=
  .of_wp fun prog w A R s h => by
    obtain ⟨hp, g, d, tk, os⟩ := s
    obtain ⟨hl, h⟩ := h
    have f1 := AutoSeq1.idx_int
    have c1 : (items.isEmpty || (1 : Int) == 1) = true := by simp
    wp_walk using wpAny_loadPart' hl
    exact ⟨_, rfl, h⟩
theorem tuple_mul0 (l : Addr) (items : Array Value) (n : Nat) (dd : Option Addr) (sl : Array (Option Value)) (u : Tok) (c1 : (items.isEmpty || (0 : Int) == 1) = false) :
    Meets (Builtin.«tuple.__mul__» ⟨[.ref l, .int 0 u], []⟩) (fun _ R s => s.heap.get? l = some { cls := .type "tuple", dict := dd, data := .seq items n, slots := sl } ∧
      R (.ok (.ret (Value.ref s.heap.objs.size))) { s with heap := s.heap.push { cls := Value.type "tuple", data := Data.seq #[] }, toks := s.toks }) :=
  .of_wp fun prog w A R s h => by
    obtain ⟨hp, g, d, tk, os⟩ := s
    obtain ⟨hl, h⟩ := h
    have f1 := AutoSeq1.idx_int
    wp_walk using wpAny_loadPart' hl
    repeat (first
      | (refine wpAny_ite_false (decide_eq_false (by rw [c1]; exact Bool.false_ne_true)) ?_; wp_walk using wpAny_loadPart' hl))
    exact ⟨_, rfl, h⟩
def rRepA (K : PySem.W.Frag) : R2 := fun x y H Q => ∃ l k xs, x = .ref l ∧ y = .int k ∧ SqT K H l xs ∧ xs ≠ [] ∧ 0 ≤ k ∧ k ≤ 1000 ∧ xs.length ≤ 1000 ∧ (k = 1 → Q (.ref l) H) ∧ (k ≠ 1 → ∀ p, H p = none → Q (.ref p) (upd H p (.tup (List.replicate k.toNat xs).flatten)))
theorem op_repA {X : Cx} : OpR X (binaryOp .Mult) (rRepA X.K) := by
  intro pins s σ H x y v u Q I rx ry h
  obtain ⟨l, k, xs, rfl, rfl, hT, hne, h1, h2, hz, q1, q2⟩ := h
  by_cases hk2 : 2 ≤ k
  · exact op_repT pins s σ H _ _ v u Q I rx ry ⟨l, k, xs, rfl, rfl, hT, hne, hk2, h2, hz, q2 (by omega)⟩
  · cases rx
    obtain ⟨t, rfl⟩ := ry
    obtain ⟨its, r, ⟨⟨cls, dd, data, sl⟩, ho, hc, n, hd⟩, hs⟩ := I.tuple hT
    simp only at hc hd
    subst hc hd
    have hle : its.length = xs.length := r.length.symm
    have hi : its.toArray.isEmpty = false := by
      cases its with
      | nil => exact absurd (List.eq_nil_of_length_eq_zero (by rw [← hle]; rfl)) hne
      | cons a b => rfl
    by_cases hk1 : k = 1
    · subst hk1
      refine wpAny_binaryOp_repeat_ref (T := "tuple") (U := "int") (by decide) ⟨_, ho, rfl⟩ (fun s' => typeIs_int s' 1 t) noFill_tuple_mul F.fills_int_mul F.slot_int_rmul repeat_tuple F.slot_int_index.lookup
        (call_meets F.slot_int_rmul (typeIs_int s 1 t) F.entry_int_rmul (F.args_int_rmul_2 _ _) (int_rmul_tuple 1 t l its.toArray n dd sl)
          ⟨ho, rfl, ⟨_, ho, rfl⟩, call_meets F.slot_tuple_mul ⟨_, ho, rfl⟩ F.entry_tuple_mul (F.args_tuple_mul_2 _ _) (tuple_mul1 l its.toArray n dd sl t) ⟨ho, ?_⟩⟩)
      exact ⟨.ref l, H, I, rfl, q1 rfl⟩
    · have hk0 : k = 0 := by omega
      subst hk0
      refine wpAny_binaryOp_repeat_ref (T := "tuple") (U := "int") (by decide) ⟨_, ho, rfl⟩ (fun s' => typeIs_int s' 0 t) noFill_tuple_mul F.fills_int_mul F.slot_int_rmul repeat_tuple F.slot_int_index.lookup
        (call_meets F.slot_int_rmul (typeIs_int s 0 t) F.entry_int_rmul (F.args_int_rmul_2 _ _) (int_rmul_tuple 0 t l its.toArray n dd sl)
          ⟨ho, rfl, ⟨_, ho, rfl⟩, call_meets F.slot_tuple_mul ⟨_, ho, rfl⟩ F.entry_tuple_mul (F.args_tuple_mul_2 _ _) (tuple_mul0 l its.toArray n dd sl t (by rw [hi]; rfl)) ⟨ho, ?_⟩⟩)
      refine ⟨.ref s.heap.objs.size, _, I.laid (t' := s.toks) (o := .tup []) (fun b ob q => Heap.get?_push_of_some _ q) (Nat.le_refl _) ?_, rfl, q2 (by decide) _ (I.hok.fresh (Nat.le_refl _))⟩
      exact ⟨Nat.zero_le _, [], .nil, IsTup.new _ _⟩
end L2

set_option Elab.async false
set_option linter.all false
set_option maxRecDepth 100000
set_option maxHeartbeats 2000000
namespace SB
open PySem L2
def HS.after (s : HS) : Nat → HS
  | 0 => s
  | n + 1 => (s.after n).next
def HS.gafter (s : HS) (g : GH) : Nat → GH
  | 0 => g
  | n + 1 => (s.after n).gnext (s.gafter g n)
abbrev BeatE := Option (Int × Str × Int × Int) × MT
def HS.ent (s : HS) : BeatE := (s.dm.2.2.2, s.ms.2.2.2)
def HS.log (s : HS) (n : Nat) : List BeatE := (List.range n).map fun i => (s.after i).ent
theorem HS.log_len (s : HS) (n : Nat) : (s.log n).length = n := by unfold HS.log; rw [List.length_map, List.length_range]
theorem HS.log_succ (s : HS) (n : Nat) : s.log (n + 1) = s.log n ++ [(s.after n).ent] := by
  unfold HS.log
  rw [List.range_succ, List.map_append]
  rfl
theorem HOk.after {s : HS} (O : HOk s) : ∀ n, HOk (s.after n)
  | 0 => O
  | n + 1 => (O.after n).next
def TAt (H : Hp) (v : V) : Option (Int × Str × Int × Int) → Prop
  | none => v = .non
  | some (j, z, a, x) => ∃ p, v = .ref p ∧ H p = some (.tup [.int j, .str z, .int a, .int x])
def MAt (H : Hp) (v : V) : MT → Prop
  | .ends => v = .str "ends"
  | .waits => v = .str "waits"
  | .goes => v = .str "goes"
  | .word z a x => ∃ q, v = .ref q ∧ H q = some (.tup [.str z, .int a, .int x])
structure EntAt (H : Hp) (p : Addr) (e : BeatE) (v1 v2 : V) : Prop where
  tup : H p = some (.tup [v1, v2])
  t : TAt H v1 e.1
  m : MAt H v2 e.2
structure LogAt (H : Hp) (l : Addr) (ps : List Addr) (es : List BeatE) : Prop where
  lst : H l = some (.lst (ps.map V.ref))
  len : ps.length = es.length
  at_ : ∀ (j : Nat) (p : Addr) (e : BeatE), ps[j]? = some p → es[j]? = some e → ∃ v1 v2, EntAt H p e v1 v2
section
variable {P : Program} {w : World} {K : PySem.W.Frag} {mg : Str → Option Value} {base : Heap} {H H' : Hp} {as : List Addr}
def Tk (H H' : Hp) : Prop := ∀ b vs, H b = some (.tup vs) → H' b = some (.tup vs)
theorem Tk.of (k : Kept as H H') (hn : ∀ b ∈ as, ∃ u, H b = some u ∧ notTup u = true) : Tk H H' := fun b vs hb => k _ _ hb fun z => by
  obtain ⟨u, hu, nt⟩ := hn b z
  rw [hb] at hu
  cases hu
  cases nt
theorem Tk.same (s : Same H H') : Tk H H' := fun b vs hb => s _ _ hb
theorem Tk.trans {H'' : Hp} (a : Tk H H') (b : Tk H' H'') : Tk H H'' := fun c vs h => b _ _ (a _ _ h)
theorem TAt.keep {v : V} {x : Option (Int × Str × Int × Int)} (h : TAt H v x) (k : Tk H H') : TAt H' v x := by
  cases x with
  | none => exact h
  | some z =>
    obtain ⟨z1, z2, z3, z4⟩ := z
    obtain ⟨p, e, hp⟩ := h
    exact ⟨p, e, k _ _ hp⟩
theorem MAt.keep {v : V} {x : MT} (h : MAt H v x) (k : Tk H H') : MAt H' v x := by
  cases x with
  | word z a y =>
    obtain ⟨p, e, hp⟩ := h
    exact ⟨p, e, k _ _ hp⟩
  | ends => exact h
  | waits => exact h
  | goes => exact h
theorem EntAt.keep {p : Addr} {e : BeatE} {v1 v2 : V} (h : EntAt H p e v1 v2) (k : Tk H H') : EntAt H' p e v1 v2 := ⟨k _ _ h.tup, h.t.keep k, h.m.keep k⟩
theorem LogAt.keep {l : Addr} {ps : List Addr} {es : List BeatE} (h : LogAt H l ps es) (k : Tk H H') (hl : H' l = some (.lst (ps.map V.ref))) : LogAt H' l ps es :=
  ⟨hl, h.len, fun j p e e1 e2 => let ⟨v1, v2, x⟩ := h.at_ j p e e1 e2; ⟨v1, v2, x.keep k⟩⟩
theorem LogAt.same {l : Addr} {ps : List Addr} {es : List BeatE} (h : LogAt H l ps es) (s : Same H H') : LogAt H' l ps es := h.keep (Tk.same s) (s _ _ h.lst)
theorem LogAt.snoc {l : Addr} {ps : List Addr} {es : List BeatE} (h : LogAt H l ps es) {p : Addr} {e : BeatE} {v1 v2 : V} (k : Tk H H') (hp : EntAt H' p e v1 v2) (hl : H' l = some (.lst ((ps ++ [p]).map V.ref))) : LogAt H' l (ps ++ [p]) (es ++ [e]) := by
  refine ⟨hl, by simp [h.len], fun j q e' e1 e2 => ?_⟩
  by_cases hj : j < ps.length
  · rw [List.getElem?_append_left hj] at e1
    rw [List.getElem?_append_left (by rw [← h.len]; exact hj)] at e2
    obtain ⟨u1, u2, x⟩ := h.at_ j q e' e1 e2
    exact ⟨u1, u2, x.keep k⟩
  · have ej : j = ps.length := by
      have := (List.getElem?_eq_some_iff.mp e1).1
      rw [List.length_append] at this
      simp at this
      omega
    subst ej
    rw [List.getElem?_append_right (Nat.le_refl _), Nat.sub_self] at e1
    rw [List.getElem?_append_right (by rw [h.len]; exact Nat.le_refl _), h.len, Nat.sub_self] at e2
    have e5 : p = q := by simpa using e1
    have e6 : e = e' := by simpa using e2
    subst e5 e6
    exact ⟨v1, v2, hp⟩
structure NotIn (R : Addr) (a : HA) : Prop where
  f : R ∉ a.foot
  al : R ≠ a.al
variable {a : HA} {s : HS} {g : GH} {R : Addr} {xs : List V}
theorem HallAt.fresh (L : HallAt K H a s g) (hR : H R = none) : NotIn R a := by
  refine ⟨fun z => ?_, ne_of_none' L.als hR⟩
  obtain ⟨u, hu, _⟩ := L.inF R z
  rw [hR] at hu
  cases hu
theorem HallAt.keepR (L : HallAt K H a s g) (hR : H R = some (.lst xs)) (n : NotIn R a) (k : Kept [R] H H') : HallAt K H' a s g := L.stay k (fun b hb z => n.f (by
    have e : b = R := by simpa using z
    rw [← e]
    exact hb)) (by simpa using Ne.symm n.al) (fun b hb => by
    have e : b = R := by simpa using hb
    rw [e]
    exact ⟨_, hR, rfl⟩)
theorem NotIn.step {a' : HA} {o : HO} (n : NotIn R a) (le : HLe a a') (st : Step a.foot H a'.foot H') (h : H R = some o) : NotIn R a' := ⟨st.apart h n.f, by rw [le.al]; exact n.al⟩
theorem HallAt.nfoot (L : HallAt K H a s g) (hR : H R = none) : R ∉ a.foot := fun z => by
  obtain ⟨u, hu, _⟩ := L.inF R z
  rw [hR] at hu
  cases hu
theorem ToldB.ent {H0 : Hp} {v : V} (h : ToldB H0 H' v s.dm.2.2.2 s.ms.2.2.2) : ∃ p v1 v2, v = .ref p ∧ EntAt H' p s.ent v1 v2 ∧ H0 p = none := by
  obtain ⟨p, v1, v2, e, np, hp, t1, t2⟩ := h
  refine ⟨p, v1, v2, e, ⟨hp, ?_, ?_⟩, np⟩
  · show TAt H' v1 s.dm.2.2.2
    cases hx : s.dm.2.2.2 with
    | none => rw [hx] at t1; exact t1
    | some z =>
      rw [hx] at t1
      obtain ⟨z1, z2, z3, z4⟩ := z
      obtain ⟨y, e, _, hy⟩ := t1
      exact ⟨y, e, hy⟩
  · show MAt H' v2 s.ms.2.2.2
    cases hx : s.ms.2.2.2 with
    | word z a x =>
      rw [hx] at t2
      obtain ⟨y, e, _, hy⟩ := t2
      exact ⟨y, e, hy⟩
    | ends => rw [hx] at t2; exact t2
    | waits => rw [hx] at t2; exact t2
    | goes => rw [hx] at t2; exact t2
theorem ShownAt.out {H0 H1 H2 H3 : Hp} {p c w' k g : Addr} {gs : List Addr} {s : HS} (S : ShownAt H1 H2 p c w' k g gs s) (a : Same H0 H1) (b : Same H2 H3) : ShownAt H0 H3 p c w' k g gs s :=
  ⟨b _ _ S.tup, b _ _ S.hc, b _ _ S.hw, b _ _ S.hk, S.hg.keep b, Same.free a S.np, Same.free a S.nc, Same.free a S.nw, Same.free a S.nk, Same.free a S.ng, S.nd⟩
theorem at0_okW {prog : List Row} {ks : List Wk} {ws : List Int} {as : List (Int × Int)} (pok : ∀ r ∈ prog, r.okW prog.length) (k6 : ks.length ≤ 6) (wok : ∀ k ∈ ks, WOk ks.length k) (w4 : 4 ≤ ws.length) (ao : AOk ks.length as) : HOk (HS.at0 prog as ks ws) := by
  refine ⟨⟨rfl, rfl, Int.le_refl 0, by show (0 : Int) ≤ _; omega, Int.le_refl 0, fun r hr => Row.beats_pos (pok r (List.mem_of_getElem? hr)), pok⟩, by show 0 < ws.length; omega, fun k hk => ?_, fun x hx => (ao.each x hx).2.1, ao.len, by show (ks.map Wk.fresh).length ≤ 6; rw [List.length_map]; omega⟩
  obtain ⟨k0, hk0, rfl⟩ := List.mem_map.mp hk
  have o := wok k0 hk0
  refine ⟨?_, fun i hi => ?_, fun x hx => (o.fo x hx).1⟩
  · have := o.c.1
    show 0 < k0.block
    omega
  · have := o.mar i hi
    have a1 := this.1
    have a2 := this.2
    exact ⟨a1, by omega⟩
theorem at0_ok {prog : List Row} {ks : List Wk} {ws : List Int} {as : List (Int × Int)} (pok : ∀ r ∈ prog, r.ok prog.length) (k6 : ks.length ≤ 6) (wok : ∀ k ∈ ks, WOk ks.length k) (w4 : 4 ≤ ws.length) (ao : AOk ks.length as) : HOk (HS.at0 prog as ks ws) := at0_okW (fun r hr => (pok r hr).w) k6 wok w4 ao
end
end SB

set_option Elab.async false
set_option linter.all false
set_option maxRecDepth 100000
set_option maxHeartbeats 2000000
namespace SB
open PySem L2
structure DiceAt (H : Hp) (d sl : Addr) (f p : Int) (cs : List Int) : Prop where
  ob : H d = some (.lst [.int f, .ref sl, .int p])
  ls : H sl = some (.lst (cs.map V.int))
  f0 : 0 ≤ f
  f1 : f < 2147483647
  p0 : 0 ≤ p
  ne : d ≠ sl
def pyInts (ns : List Int) : List PyData := ns.map PyData.int
theorem dp_ints {K : PySem.W.Frag} {H : Hp} : ∀ ns : List Int, DpAll K H (ns.map V.int) (pyInts ns)
  | [] => .nil
  | n :: r => .cons (.int n) (dp_ints r)
theorem canLay_ints : ∀ ns : List Int, PyData.canLayAll0 (pyInts ns) = true
  | [] => rfl
  | n :: r => by
    show (true && PyData.canLayAll0 (pyInts r)) = true
    rw [canLay_ints r]
    rfl
theorem depth_ints : ∀ ns : List Int, PyData.depthAll (pyInts ns) = 0
  | [] => rfl
  | n :: r => by
    show max 0 (PyData.depthAll (pyInts r)) = 0
    rw [depth_ints r]
    rfl
theorem shaped_ints (ns : List Int) : SeqAt.shaped (.list (pyInts ns)) = true := by
  show (PyData.canLayAll0 (pyInts ns) && decide (PyData.depthAll (pyInts ns) + 1 ≤ 64)) = true
  rw [canLay_ints, depth_ints]
  rfl
theorem eqv_nil (ns : List Int) : PyData.eqv (.list (pyInts ns)) (.list (pyInts [])) = ns.isEmpty := by
  cases ns <;> rfl
section
variable {P : Program} {w : World} {K : PySem.W.Frag} {mg : Str → Option Value} {base : Heap}
def sp_l_dice (K : PySem.W.Frag) : Sp := fun vs H Q _ => ∃ (a : Addr) (ns : List Int) (k : Int), vs = [.ref a, .int k] ∧ SqL K H a (ns.map V.int) ∧ 0 ≤ k ∧ k < 2147483647 ∧ ns.length ≤ 63 ∧
  ∀ H' d sl f, DiceAt H' d sl f 0 ns → H d = none → H sl = none → Same H H' → Q (.ref d) H'
theorem ok_l_dice (T : T w K mg) : FnR P w K mg base CX0 1 (He.ga K "_law_dice") (sp_l_dice K) := by
  obtain ⟨fd, F⟩ := T.f_l_dice
  refine F.r sc_l_dice (fun _ _ _ _ _ _ us hl => match us, hl with | [_, _], _ => rfl) (fun vs H Q E h => ?_) (fun cdv A outer s H vs Q E hr h => ?_)
  · obtain ⟨_, _, _, rfl, _⟩ := h
    rfl
  · obtain ⟨a, ns, k, rfl, hS, k0, k1, hlen, q⟩ := h
    refine ⟨_, (pss_cons (ps_set (i := 2) sc_l_dice.nd rfl (Or.inl rfl) (pv 1))
      (pss_cons (ps_for PassesOwn.never rfl (pi_list (pv 0)) (pg_name (i := 3) sc_l_dice.nd rfl (Or.inl rfl))
      (pss_one (ps_set (i := 2) sc_l_dice.nd rfl (Or.inl rfl) (pe_op op_mod (pe_op op_add (pe_op op_mul (pv 2) pe_int) (pe_callB call_abs rfl T.u_abs (by decide +kernel) (pa_cons (pv 3) pa_nil))) pe_int))))
      (pss_one (ps_ret (pe_lst (pa_cons (pv 2) (pa_cons (pe_callTy call_list_of rfl T.u_list (by decide +kernel) (pa_cons (pv 0) pa_nil)) (pa_cons pe_int pa_nil)))))))), ?_⟩
    refine ⟨_, rfl, ?_⟩ -- _law_k
    refine ⟨_, rfl, a, rfl, ⟨_, hS⟩, for_list (K := K) (a := a) (xs := ns.map V.int) (fun i σ H2 => ∃ (f : Int) (v : Option V), σ = [some (.ref a), some (.int k), some (.int f), v] ∧ H2 = H ∧ 0 ≤ f ∧ f < 2147483647) ⟨k, none, rfl, rfl, k0, k1⟩ (fun i σ H2 _ ⟨_, _, _, e, _⟩ => by rw [e]; exact hS) ?_ ?_⟩
    · rintro i x σ H2 hx ⟨f, v, rfl, rfl, f0, f1⟩
      rw [List.getElem?_map] at hx
      cases hy : ns[i]? with
      | none => rw [hy] at hx; cases hx
      | some y =>
        rw [hy] at hx
        cases hx
        refine ⟨_, rfl, _, _, rfl, rfl, .inr ⟨by decide, by decide⟩, ?_⟩
        refine ⟨_, rfl, _, rfl, _, _, rfl, rfl, _, _, rfl, rfl, (by show (0 : Int) < 2147483647; decide), ?_⟩
        exact ⟨_, _, rfl, rfl, Int.emod_nonneg _ (by decide), Int.emod_lt_of_pos _ (by decide)⟩
    · rintro σ H2 ⟨f, v, rfl, rfl, f0, f1⟩
      refine ⟨_, rfl, _, rfl, _, _, rfl, .inl hS, fun sl hsl => ?_⟩
      refine ⟨by show 3 ≤ sizeLine; decide, fun d hd => ?_⟩
      have dsl : d ≠ sl := fun z => by rw [z, upd_same] at hd; cases hd
      rw [upd_ne dsl] at hd
      exact q _ d sl f ⟨upd_same, by rw [upd_ne (Ne.symm dsl)]; exact upd_same, f0, f1, Int.le_refl 0, dsl⟩ hd hsl (Same.new (Same.new (Same.refl _) hsl) hd)
def sp_l_off (K : PySem.W.Frag) : Sp := fun vs H Q _ => ∃ (d sl : Addr) (f p : Int) (cs : List Int) (most : Int), vs = [.ref d, .int most] ∧ DiceAt H d sl f p cs ∧ cs.length ≤ 63 ∧ 0 < most ∧ most < 1073741824 ∧
  ∀ H' f' p' cs' v, DiceAt H' d sl f' p' cs' → cs'.length = cs.length → Kept [d, sl] H H' → 0 ≤ v → v < most → Q (.int v) H'
theorem ok_l_off (T : T w K mg) : FnR P w K mg base CX0 1 (He.ga K "_law_off") (sp_l_off K) := by
  obtain ⟨fd, F⟩ := T.f_l_off
  refine F.r sc_l_off (fun _ _ _ _ _ _ us hl => match us, hl with | [_, _], _ => rfl) (fun vs H Q E h => ?_) (fun cdv A outer s H vs Q E hr h => ?_)
  · obtain ⟨_, _, _, _, _, _, rfl, _⟩ := h
    rfl
  · obtain ⟨d, sl, f, p, cs, most, rfl, D, c63, m0, m1, q⟩ := h
    have hu := hr.units
    refine ⟨_, (pss_cons (ps_set (i := 2) sc_l_off.nd rfl (Or.inl rfl) (pe_op op_mod (pe_ix ix_list (pv 0) pe_int (fun _ _ => rfl)) (pe_callB (call_max2 rfl) rfl T.u_max (by decide +kernel) (pa_cons pe_int (pa_cons (pe_callB call_len_seq rfl T.u_len PySem.boot_len (pa_cons (pe_ix ix_list (pv 0) pe_int (fun _ _ => rfl)) pa_nil)) pa_nil)))))
      (pss_cons (ps_set (i := 3) sc_l_off.nd rfl (Or.inl rfl) (pe_ifExp (pt_cmpR (op_neD hu) (pe_ix ix_list (pv 0) pe_int (fun _ _ => rfl)) (pe_lst pa_nil) (nomark _)) (pe_ix ix_list (pe_ix ix_list (pv 0) pe_int (fun _ _ => rfl)) (pv 2) (fun _ _ => rfl)) pe_int))
      (pss_cons (ps_if (pt_cmpR op_ge (pv 3) (pe_op op_pow pe_int pe_int) (nomark _))
      (pss_cons (ps_asg (pe_op op_fdiv (pv 3) (pv 1)) (pg_sub (pe_ix ix_list (pv 0) pe_int (fun _ _ => rfl)) (pv 2) set_list))
      (pss_one (ps_ret (pe_op op_mod (pv 3) (pv 1)))))
      pss_nil)
      (pss_cons (ps_asg (pe_op op_mod (pe_op op_add (pe_op op_add (pe_op op_mul (pe_ix ix_list (pv 0) pe_int (fun _ _ => rfl)) pe_int) (pe_op op_mul (pv 3) pe_int)) pe_int) pe_int) (pg_sub (pv 0) pe_int set_list))
      (pss_cons (ps_asg (pe_op op_add (pe_ix ix_list (pv 0) pe_int (fun _ _ => rfl)) pe_int) (pg_sub (pv 0) pe_int set_list))
      (pss_one (ps_ret (pe_op op_mod (pe_op op_fdiv (pe_ix ix_list (pv 0) pe_int (fun _ _ => rfl)) pe_int) (pv 1))))))))), ?_⟩
    refine ⟨_, rfl, _, _, _, _, rfl, rfl, SqL.of D.ob, rfl, ?_⟩ -- _law_d[2]
    refine ⟨_, rfl, _, _, _, _, rfl, rfl, SqL.of D.ob, rfl, ?_⟩ -- _law_d[1]
    refine ⟨_, _, rfl, .inl (SqL.of D.ls), ?_⟩ -- len
    rw [List.length_map]
    refine ⟨_, _, rfl, ?_⟩ -- max
    generalize hmx : (if ((cs.length : Nat) : Int) > 1 then ((cs.length : Nat) : Int) else 1) = mx
    have mx0 : 0 < mx := by rw [← hmx]; split <;> omega
    have mxc : 0 < cs.length → mx ≤ cs.length := fun h => by rw [← hmx]; split <;> omega
    refine ⟨_, _, rfl, rfl, mx0, ?_⟩
    have a0 : 0 ≤ p % mx := Int.emod_nonneg _ (by omega)
    have a1 : p % mx < mx := Int.emod_lt_of_pos _ mx0
    refine ⟨_, rfl, _, _, _, _, rfl, rfl, SqL.of D.ob, rfl, ?_⟩ -- _law_d[1]
    refine ⟨by show 0 ≤ sizeLine; decide, fun e he => ?_⟩ -- []
    have D1s : Same H (upd H e (.lst [])) := Same.new (Same.refl H) he
    have D1 : DiceAt (upd H e (.lst [])) d sl f p cs := ⟨D1s _ _ D.ob, D1s _ _ D.ls, D.f0, D.f1, D.p0, D.ne⟩
    refine ⟨.list (pyInts cs), .list (pyInts []), .lst (SqL.of D1.ls) (dp_ints cs), .lst (SqL.of upd_same) (dp_ints []), shaped_ints cs, shaped_ints [], ?_⟩
    have k1 : Kept [d, sl] H (upd H e (.lst [])) := Kept.same D1s
    generalize upd H e (.lst []) = H1 at D1 k1
    refine ⟨_, rfl, ?_⟩
    have rest : ∀ (cell : Int), (0 < cs.length ∨ cell = 0) → tSeq (tIfS (tTest (tOp (rI0 fun i j => .bl (decide (j ≤ i))) (tVar 3) (tOp (rI CPow fun i j => .int (i ^ j.toNat)) (tC (.int 10)) (tC (.int 18)))))
        (tSeq (tAsg (tOp (rI CDiv fun i j => .int (i / j)) (tVar 3) (tVar 1)) (gSub (tOp (rIxL K) (tVar 0) (tC (.int 1))) (tVar 2) rSetL)) (tRet (tOp (rI (fun _ j => 0 < j) fun i j => .int (i % j)) (tVar 3) (tVar 1)))) tNext)
        (tSeq (tAsg (tOp (rI (fun _ j => 0 < j) fun i j => .int (i % j)) (tOp (rI0 fun i j => .int (i + j)) (tOp (rI0 fun i j => .int (i + j)) (tOp (rI CMul fun i j => .int (i * j)) (tOp (rIxL K) (tVar 0) (tC (.int 0))) (tC (.int 48271))) (tOp (rI CMul fun i j => .int (i * j)) (tVar 3) (tC (.int 69621)))) (tC (.int 11))) (tC (.int 2147483647))) (gSub (tVar 0) (tC (.int 0)) rSetL))
        (tSeq (tAsg (tOp (rI0 fun i j => .int (i + j)) (tOp (rIxL K) (tVar 0) (tC (.int 2))) (tC (.int 1))) (gSub (tVar 0) (tC (.int 2)) rSetL)) (tRet (tOp (rI (fun _ j => 0 < j) fun i j => .int (i % j)) (tOp (rI CDiv fun i j => .int (i / j)) (tOp (rIxL K) (tVar 0) (tC (.int 0))) (tC (.int 64))) (tVar 1)))))
        { nx := fun _ H' => Q .non H', rt := Q } [some (.ref d), some (.int most), some (.int (p % mx)), some (.int cell)] H1 := by
      intro cell hcell
      refine ⟨_, rfl, _, _, rfl, rfl, ⟨by decide, by decide, by decide⟩, _, _, rfl, rfl, _, rfl, ?_⟩
      refine ite2 (fun c1 => ?_) (fun c1 => ?_)
      · have hc0 : 0 < cs.length := by
          rcases hcell with h | h
          · exact h
          · exfalso
            have := of_decide_eq_true c1
            rw [h] at this
            exact absurd this (by decide)
        have hmx' := mxc hc0
        refine ⟨_, rfl, _, rfl, _, _, rfl, rfl, ⟨m0, m1⟩, ?_⟩
        refine ⟨_, rfl, _, _, _, _, rfl, rfl, SqL.of D1.ob, rfl, ?_⟩
        refine ⟨_, rfl, _, _, _, _, rfl, rfl, D1.ls, ix_ok a0 (by rw [List.length_map]; omega), ?_⟩
        rw [set_int]
        refine ⟨_, rfl, _, rfl, _, _, rfl, rfl, m0, ?_⟩
        exact q _ f p _ _ ⟨by rw [upd_ne D1.ne]; exact D1.ob, upd_same, D1.f0, D1.f1, D1.p0, D1.ne⟩ (by rw [List.length_set]) (k1.put (by simp)) (Int.emod_nonneg _ (by omega)) (Int.emod_lt_of_pos _ m0)
      · refine ⟨_, rfl, _, _, _, _, rfl, rfl, SqL.of D1.ob, rfl, _, _, rfl, rfl, .inr ⟨by decide, by decide⟩, ?_⟩
        refine ⟨_, rfl, _, _, rfl, rfl, .inr ⟨by decide, by decide⟩, _, _, rfl, rfl, _, _, rfl, rfl, _, _, rfl, rfl, (by show (0 : Int) < 2147483647; decide), ?_⟩
        refine ⟨_, rfl, _, _, _, _, rfl, rfl, D1.ob, rfl, ?_⟩
        obtain ⟨f', hf⟩ : ∃ f', (f * 48271 + cell * 69621 + 11) % 2147483647 = f' := ⟨_, rfl⟩
        have f0' : 0 ≤ f' := by rw [← hf]; exact Int.emod_nonneg _ (by decide)
        have f1' : f' < 2147483647 := by rw [← hf]; exact Int.emod_lt_of_pos _ (by decide)
        have D2 : DiceAt (upd H1 d (.lst [.int f', .ref sl, .int p])) d sl f' p cs := ⟨upd_same, by rw [upd_ne (Ne.symm D1.ne)]; exact D1.ls, f0', f1', D1.p0, D1.ne⟩
        have k2 : Kept [d, sl] H (upd H1 d (.lst [.int f', .ref sl, .int p])) := k1.put (by simp)
        show (tSeq _ _) _ _ (upd H1 d (.lst [.int ((f * 48271 + cell * 69621 + 11) % 2147483647), .ref sl, .int p]))
        rw [hf]
        generalize upd H1 d (.lst [.int f', .ref sl, .int p]) = H2 at D2 k2
        refine ⟨_, rfl, _, _, _, _, rfl, rfl, SqL.of D2.ob, rfl, _, _, rfl, rfl, ?_⟩
        refine ⟨_, rfl, _, _, _, _, rfl, rfl, D2.ob, rfl, ?_⟩
        have D3 : DiceAt (upd H2 d (.lst [.int f', .ref sl, .int (p + 1)])) d sl f' (p + 1) cs := ⟨upd_same, by rw [upd_ne (Ne.symm D2.ne)]; exact D2.ls, f0', f1', by have := D2.p0; omega, D2.ne⟩
        have k3 : Kept [d, sl] H (upd H2 d (.lst [.int f', .ref sl, .int (p + 1)])) := k2.put (by simp)
        refine ⟨_, rfl, _, _, _, _, rfl, rfl, SqL.of D3.ob, rfl, _, _, rfl, rfl, ⟨by decide, by decide⟩, ?_⟩
        refine ⟨_, rfl, _, _, rfl, rfl, m0, ?_⟩
        exact q _ _ _ cs _ D3 rfl k3 (Int.emod_nonneg _ (by omega)) (Int.emod_lt_of_pos _ m0)
    dsimp only
    rw [eqv_nil]
    cases hcs : cs.isEmpty with
    | true =>
      refine iteF ?_
      exact rest 0 (.inr rfl)
    | false =>
      have hc0 : 0 < cs.length := by
        cases cs with
        | nil => cases hcs
        | cons a b => simp
      have hmx' := mxc hc0
      refine iteT ?_
      refine ⟨_, rfl, _, _, _, _, rfl, rfl, SqL.of D1.ob, rfl, ?_⟩
      refine ⟨_, rfl, _, _, _, _, rfl, rfl, SqL.of D1.ls, at_int a0 (by omega), ?_⟩
      exact rest _ (.inl hc0)
theorem DiceAt.same {H H' : Hp} {d sl : Addr} {f p : Int} {cs : List Int} (D : DiceAt H d sl f p cs) (s : Same H H') : DiceAt H' d sl f p cs := ⟨s _ _ D.ob, s _ _ D.ls, D.f0, D.f1, D.p0, D.ne⟩
theorem DiceAt.keep {H H' : Hp} {d sl : Addr} {f p : Int} {cs : List Int} {as : List Addr} (D : DiceAt H d sl f p cs) (k : Kept as H H') (h1 : d ∉ as) (h2 : sl ∉ as) : DiceAt H' d sl f p cs := ⟨k _ _ D.ob h1, k _ _ D.ls h2, D.f0, D.f1, D.p0, D.ne⟩
end
end SB

set_option Elab.async false
set_option linter.all false
set_option maxRecDepth 100000
set_option maxHeartbeats 2000000
namespace SB
open PySem L2
def dT : Option (Int × Str × Int × Int) → PyData
  | none => .none
  | some (j, z, a, x) => .tuple [.int j, .str z, .int a, .int x]
def dM : MT → PyData
  | .ends => .str "ends"
  | .waits => .str "waits"
  | .goes => .str "goes"
  | .word z a x => .tuple [.str z, .int a, .int x]
def dE (e : BeatE) : PyData := .tuple [dT e.1, dM e.2]
def WdOk (z : Str) : Prop := z = "get" ∨ z = "put"
structure EOk (e : BeatE) : Prop where
  t : ∀ j z a x, e.1 = some (j, z, a, x) → WdOk z
  m : ∀ z a x, e.2 = .word z a x → WdOk z
theorem wd_lay {z : Str} (h : WdOk z) : PyData.canLay0 (.str z) = true := by
  rcases h with rfl | rfl <;> decide +kernel
theorem dT_lay {t : Option (Int × Str × Int × Int)} (h : ∀ j z a x, t = some (j, z, a, x) → WdOk z) : PyData.canLay0 (dT t) = true := by
  cases t with
  | none => rfl
  | some y =>
    obtain ⟨j, z, a, x⟩ := y
    have := wd_lay (h j z a x rfl)
    show (true && (PyData.canLay0 (.str z) && (true && (true && true)))) = true
    rw [this]
    rfl
theorem dM_lay {t : MT} (h : ∀ z a x, t = .word z a x → WdOk z) : PyData.canLay0 (dM t) = true := by
  cases t with
  | word z a x =>
    have := wd_lay (h z a x rfl)
    show (PyData.canLay0 (.str z) && (true && (true && true))) = true
    rw [this]
    rfl
  | ends => decide +kernel
  | waits => decide +kernel
  | goes => decide +kernel
theorem dE_lay {e : BeatE} (h : EOk e) : PyData.canLay0 (dE e) = true := by
  show (PyData.canLay0 (dT e.1) && (PyData.canLay0 (dM e.2) && true)) = true
  rw [dT_lay h.t, dM_lay h.m]
  rfl
theorem dT_deep (t : Option (Int × Str × Int × Int)) : PyData.depth (dT t) ≤ 1 := by
  cases t with
  | none => exact Nat.zero_le _
  | some y => obtain ⟨j, z, a, x⟩ := y; exact Nat.le_refl _
theorem dM_deep (t : MT) : PyData.depth (dM t) ≤ 1 := by
  cases t <;> first | exact Nat.zero_le _ | exact Nat.le_refl _
theorem dE_deep (e : BeatE) : PyData.depth (dE e) ≤ 2 := by
  have h1 := dT_deep e.1
  have h2 := dM_deep e.2
  show max (PyData.depth (dT e.1)) (max (PyData.depth (dM e.2)) 0) + 1 ≤ 2
  omega
theorem lay_all {α : Type} {f : α → PyData} : ∀ xs : List α, (∀ x ∈ xs, PyData.canLay0 (f x) = true) → PyData.canLayAll0 (xs.map f) = true
  | [], _ => rfl
  | x :: r, h => by
    show (PyData.canLay0 (f x) && PyData.canLayAll0 (r.map f)) = true
    rw [h x List.mem_cons_self, lay_all r (fun y hy => h y (List.mem_cons_of_mem _ hy))]
    rfl
theorem deep_all {α : Type} {f : α → PyData} {n : Nat} (h : ∀ x, PyData.depth (f x) ≤ n) : ∀ xs : List α, PyData.depthAll (xs.map f) ≤ n
  | [] => Nat.zero_le _
  | x :: r => by
    have h1 := h x
    have h2 := deep_all h r
    show max (PyData.depth (f x)) (PyData.depthAll (r.map f)) ≤ n
    omega
theorem shaped_all {α : Type} {f : α → PyData} {n : Nat} (hn : n < 64) (xs : List α) (h : ∀ x ∈ xs, PyData.canLay0 (f x) = true) (hd : ∀ x, PyData.depth (f x) ≤ n) : SeqAt.shaped (.list (xs.map f)) = true := by
  have := deep_all hd xs
  show (PyData.canLayAll0 (xs.map f) && decide (PyData.depthAll (xs.map f) + 1 ≤ 64)) = true
  rw [lay_all xs h, decide_eq_true (by omega)]
  rfl
theorem eqv_self {d : PyData} (h : SeqAt.shaped d = true) : PyData.eqv d d = true := SeqAt.eqv_refl d (SeqAt.canLay_of_shaped h)
section
variable {K : PySem.W.Frag} {H : Hp}
theorem dpAll_of {α : Type} {f : α → PyData} : ∀ (ps : List Addr) (es : List α), ps.length = es.length → (∀ (j : Nat) (p : Addr) (e : α), ps[j]? = some p → es[j]? = some e → Dp K H (.ref p) (f e)) → DpAll K H (ps.map V.ref) (es.map f)
  | [], [], _, _ => .nil
  | [], _ :: _, h, _ => by simp at h
  | _ :: _, [], h, _ => by simp at h
  | p :: ps, e :: es, h, g => .cons (g 0 p e rfl rfl) (dpAll_of ps es (by simpa using h) (fun j q d h1 h2 => g (j + 1) q d (by simpa using h1) (by simpa using h2)))
theorem TAt.dp {v : V} {t : Option (Int × Str × Int × Int)} (h : TAt H v t) : Dp K H v (dT t) := by
  cases t with
  | none =>
    have e : v = .non := h
    rw [e]
    exact .non
  | some y =>
    obtain ⟨j, z, a, x⟩ := y
    obtain ⟨p, rfl, hp⟩ := h
    exact .tup (SqT.of hp) (.cons (.int _) (.cons (.str _) (.cons (.int _) (.cons (.int _) .nil))))
theorem MAt.dp {v : V} {t : MT} (h : MAt H v t) : Dp K H v (dM t) := by
  cases t with
  | word z a x =>
    obtain ⟨p, rfl, hp⟩ := h
    exact .tup (SqT.of hp) (.cons (.str _) (.cons (.int _) (.cons (.int _) .nil)))
  | ends => have e : v = .str "ends" := h; rw [e]; exact .str _
  | waits => have e : v = .str "waits" := h; rw [e]; exact .str _
  | goes => have e : v = .str "goes" := h; rw [e]; exact .str _
theorem EntAt.dp {p : Addr} {e : BeatE} {v1 v2 : V} (h : EntAt H p e v1 v2) : Dp K H (.ref p) (dE e) := .tup (SqT.of h.tup) (.cons h.t.dp (.cons h.m.dp .nil))
theorem LogAt.dpAll {l : Addr} {ps : List Addr} {es : List BeatE} (h : LogAt H l ps es) : DpAll K H (ps.map V.ref) (es.map dE) :=
  dpAll_of ps es h.len (fun j p e h1 h2 => let ⟨_, _, x⟩ := h.at_ j p e h1 h2; x.dp)
end
theorem word_ok {r : Row} {spent : Int} {cells : List Int} {z : Str} {p c : Int} (h : r.word spent cells = some (z, p, c)) : WdOk z := by
  cases r <;> simp [Row.word] at h <;> first | exact .inl h.1.symm | exact .inr h.1.symm
theorem ent_ok (s : HS) : EOk s.ent := by
  constructor
  · intro j z a x h
    have h' : s.dm.2.2.2 = some (j, z, a, x) := h
    unfold HS.dm devMove at h'
    cases e : (askAll s.beats s.ks s.asks).findIdx? (takes s.S.marks (wantedOf s.prog s.S).isSome s.took) with
    | none => rw [e] at h'; cases h'
    | some i =>
      rw [e] at h'
      cases e2 : (askAll s.beats s.ks s.asks)[i]? with
      | none => simp only [e2] at h'; cases h'
      | some k =>
        simp only [e2] at h'
        have h2 := Option.some.inj h'
        unfold Wk.move at h2
        cases e3 : k.hand with
        | none =>
          rw [e3] at h2
          simp only [Prod.mk.injEq] at h2
          exact .inl h2.2.1.symm
        | some y =>
          rw [e3] at h2
          simp only [Prod.mk.injEq] at h2
          exact .inr h2.2.1.symm
  · intro z a x h
    have h' : s.ms.2.2.2 = .word z a x := h
    unfold HS.ms mstep at h'
    cases e : s.prog[s.S.row.toNat]? with
    | none => rw [e] at h'; cases h'
    | some r =>
      rw [e] at h'
      cases e2 : r.word s.S.spent s.S.cells with
      | none => simp only [e2] at h'; cases h'
      | some y =>
        obtain ⟨y1, y2, y3⟩ := y
        simp only [e2] at h'
        split at h'
        · cases h'
        · cases h'
          exact word_ok e2
theorem log_lay (s : HS) (n : Nat) : ∀ e ∈ s.log n, PyData.canLay0 (dE e) = true := fun e he => by
  unfold HS.log at he
  obtain ⟨i, _, rfl⟩ := List.mem_map.mp he
  exact dE_lay (ent_ok _)
theorem shaped_log {es : List BeatE} (h : ∀ e ∈ es, PyData.canLay0 (dE e) = true) : SeqAt.shaped (.list (es.map dE)) = true := shaped_all (by decide) es h dE_deep
theorem shaped_tolds {ts : List (Int × Str × Int × Int)} (h : ∀ t ∈ ts, WdOk t.2.1) : SeqAt.shaped (.list (ts.map fun t => dT (some t))) = true :=
  shaped_all (n := 1) (by decide) ts (fun t ht => dT_lay (fun j z a x e => by cases e; exact h _ ht)) (fun t => dT_deep _)
def tv (t : Int × Str × Int × Int) : List V := [.int t.1, .str t.2.1, .int t.2.2.1, .int t.2.2.2]
theorem tolds_dp {K : PySem.W.Frag} {H : Hp} {D : Addr} {ps : List Addr} {ts : List (Int × Str × Int × Int)} (h : TupsAt H D ps (ts.map tv)) : Dp K H (.ref D) (.list (ts.map fun t => dT (some t))) := by
  refine .lst (SqL.of h.lst) (dpAll_of ps ts (by rw [h.len, List.length_map]) (fun j p e h1 h2 => ?_))
  have := h.at_ j p (tv e) h1 (by rw [List.getElem?_map, h2]; rfl)
  obtain ⟨j, z, a, x⟩ := e
  exact .tup (SqT.of this) (.cons (.int _) (.cons (.str _) (.cons (.int _) (.cons (.int _) .nil))))
theorem TupsAt.push {H : Hp} {D p : Addr} {ps : List Addr} {vss : List (List V)} {vs : List V} (t : TupsAt H D ps vss) (hp : H p = some (.tup vs)) : TupsAt (upd H D (.lst ((ps ++ [p]).map V.ref))) D (ps ++ [p]) (vss ++ [vs]) := by
  have nD : ∀ {q : Addr} {us : List V}, H q = some (.tup us) → upd H D (.lst ((ps ++ [p]).map V.ref)) q = some (.tup us) := fun {q us} hq => by
    have h1 : q ≠ D := ne_of hq t.lst (by intro z; cases z)
    rw [upd_ne h1]
    exact hq
  refine ⟨upd_same, by simp [t.len], fun j q us e1 e2 => ?_⟩
  by_cases hj : j < ps.length
  · rw [List.getElem?_append_left hj] at e1
    rw [List.getElem?_append_left (by rw [← t.len]; exact hj)] at e2
    exact nD (t.at_ j q us e1 e2)
  · have ej : j = ps.length := by
      have := (List.getElem?_eq_some_iff.mp e1).1
      rw [List.length_append] at this
      simp at this
      omega
    subst ej
    rw [List.getElem?_append_right (Nat.le_refl _), Nat.sub_self] at e1
    rw [List.getElem?_append_right (by rw [t.len]; exact Nat.le_refl _), t.len, Nat.sub_self] at e2
    have e5 : p = q := by simpa using e1
    have e6 : vs = us := by simpa using e2
    subst e5 e6
    exact nD hp
theorem cut_take {xs : List V} {n : Nat} : cutV xs none (some (n : Int)) = xs.take n := by
  unfold cutV
  rw [HT.sIx_nat]
  show (xs.drop 0).take (min n xs.length - 0) = _
  rw [List.drop_zero, Nat.sub_zero]
  by_cases h : n ≤ xs.length
  · rw [Nat.min_eq_left h]
  · rw [Nat.min_eq_right (by omega), List.take_of_length_le (Nat.le_refl _), List.take_of_length_le (by omega)]
theorem cut_mid {xs : List V} {a b : Nat} (h : a + b ≤ xs.length) : cutV xs (some (a : Int)) (some ((a + b : Nat) : Int)) = (xs.drop a).take b := by
  unfold cutV
  rw [HT.sIx_nat, HT.sIx_nat, Nat.min_eq_left h, Nat.min_eq_left (show a ≤ xs.length by omega)]
  congr 1
  omega
end SB

set_option Elab.async false
set_option linter.all false
set_option maxRecDepth 100000
set_option maxHeartbeats 4000000
namespace SB
open PySem PySem.Spec PyProof.Rows L2
section
variable {K : PySem.W.Frag} {H H' : Hp}
def rowD (s : HS) : PyData := if s.S.row = s.prog.length then .none else .int s.S.row
def goD (g : Int × Int × Bool) : PyData := .tuple [.int g.1, .int g.2.1, .bool g.2.2]
def dSh (s : HS) : PyData := .tuple [.int s.beats, rowD s, .list (pyInts s.S.cells), .list (pyInts s.ws), .list (s.S.marks.map .bool), .list ((goFrom 0 s.ks).map goD)]
theorem dp_bls : ∀ bs : List Bool, DpAll K H (bs.map V.bl) (bs.map PyData.bool)
  | [] => .nil
  | b :: r => .cons (.bl b) (dp_bls r)
theorem dp_row (s : HS) : Dp K H (rowV s) (rowD s) := by
  unfold rowV rowD
  split
  · exact .non
  · exact .int _
theorem ShownAt.dp {H0 : Hp} {p c w' k g : Addr} {ps : List Addr} {s : HS} (h : ShownAt H0 H p c w' k g ps s) : Dp K H (.ref p) (dSh s) := by
  refine .tup (SqT.of h.tup) (.cons (.int _) (.cons (dp_row s) (.cons (.lst (SqL.of h.hc) (dp_ints _)) (.cons (.lst (SqL.of h.hw) (dp_ints _)) (.cons (.lst (SqL.of h.hk) (dp_bls _)) (.cons (.lst (SqL.of h.hg.lst) (dpAll_of ps (goFrom 0 s.ks) (by rw [h.hg.len, List.length_map]) (fun j p e h1 h2 => ?_))) .nil))))))
  have h3 := h.hg.at_ j p (goV e) h1 (by rw [List.getElem?_map, h2]; rfl)
  exact .tup (SqT.of h3) (.cons (.int _) (.cons (.int _) (.cons (.bl _) .nil)))
theorem lay_bls : ∀ bs : List Bool, PyData.canLayAll0 (bs.map PyData.bool) = true
  | [] => rfl
  | b :: r => by
    show (true && PyData.canLayAll0 (r.map PyData.bool)) = true
    rw [lay_bls r]
    rfl
theorem deep_bls : ∀ bs : List Bool, PyData.depthAll (bs.map PyData.bool) = 0
  | [] => rfl
  | b :: r => by
    show max 0 (PyData.depthAll (r.map PyData.bool)) = 0
    rw [deep_bls r]
    rfl
def dRun (es : List BeatE) (s : HS) : PyData := .tuple [.list (es.map dE), dSh s]
theorem row_lay (s : HS) : PyData.canLay0 (rowD s) = true ∧ PyData.depth (rowD s) = 0 := by
  unfold rowD
  split <;> exact ⟨rfl, rfl⟩
theorem dRun_shaped {es : List BeatE} (s : HS) (h : ∀ e ∈ es, PyData.canLay0 (dE e) = true) : SeqAt.shaped (dRun es s) = true := by
  have h1 := lay_all es h
  have h2 := deep_all dE_deep es
  have g1 := lay_all (f := goD) (goFrom 0 s.ks) (fun x _ => rfl)
  have g2 := deep_all (f := goD) (n := 1) (fun x => Nat.le_refl _) (goFrom 0 s.ks)
  have r := row_lay s
  have c1 := canLay_ints s.S.cells
  have c2 := depth_ints s.S.cells
  have w1 := canLay_ints s.ws
  have w2 := depth_ints s.ws
  have b1 := lay_bls s.S.marks
  have b2 := deep_bls s.S.marks
  show ((PyData.canLayAll0 (es.map dE) && ((true && (PyData.canLay0 (rowD s) && (PyData.canLayAll0 (pyInts s.S.cells) && (PyData.canLayAll0 (pyInts s.ws) && (PyData.canLayAll0 (s.S.marks.map .bool) && (PyData.canLayAll0 ((goFrom 0 s.ks).map goD) && true)))))) && true)) && decide (max (PyData.depthAll (es.map dE) + 1) (max (max 0 (max (PyData.depth (rowD s)) (max (PyData.depthAll (pyInts s.S.cells) + 1) (max (PyData.depthAll (pyInts s.ws) + 1) (max (PyData.depthAll (s.S.marks.map .bool) + 1) (max (PyData.depthAll ((goFrom 0 s.ks).map goD) + 1) 0))))) + 1) 0) + 1 ≤ 64)) = true
  rw [h1, g1, r.1, c1, w1, b1, decide_eq_true (by omega)]
  rfl
theorem dRun_deep {es : List BeatE} (s : HS) : PyData.depth (dRun es s) ≤ 4 := by
  have h2 := deep_all dE_deep es
  have g2 := deep_all (f := goD) (n := 1) (fun x => Nat.le_refl _) (goFrom 0 s.ks)
  have r := row_lay s
  have c2 := depth_ints s.S.cells
  have w2 := depth_ints s.ws
  have b2 := deep_bls s.S.marks
  show max (PyData.depthAll (es.map dE) + 1) (max (max 0 (max (PyData.depth (rowD s)) (max (PyData.depthAll (pyInts s.S.cells) + 1) (max (PyData.depthAll (pyInts s.ws) + 1) (max (PyData.depthAll (s.S.marks.map .bool) + 1) (max (PyData.depthAll ((goFrom 0 s.ks).map goD) + 1) 0))))) + 1) 0) + 1 ≤ 4
  omega
end
end SB

set_option Elab.async false
set_option linter.all false
set_option maxRecDepth 100000
set_option maxHeartbeats 4000000
namespace SB
open PySem L2
section
variable {K : PySem.W.Frag} {H H' : Hp} {la : Addr} {kvs : List (Key × V)}
theorem sql_kept (k : Kept [la] H H') (hl : H la = some (.dK kvs)) {a : Addr} {xs : List V} (h : SqL K H a xs) : SqL K H' a xs := by
  rcases h with (h | ⟨o, h⟩) | h
  · exact .inl (.inl (k _ _ h (by
      have : a ≠ la := ne_of h hl (by intro z; cases z)
      simpa using this)))
  · exact .inl (.inr ⟨o, k _ _ h (by
      have : a ≠ la := ne_of h hl (by intro z; cases z)
      simpa using this)⟩)
  · exact .inr h
theorem sqt_kept (k : Kept [la] H H') (hl : H la = some (.dK kvs)) {a : Addr} {xs : List V} (h : SqT K H a xs) : SqT K H' a xs := by
  rcases h with (h | ⟨o, h⟩) | h
  · exact .inl (.inl (k _ _ h (by
      have : a ≠ la := ne_of h hl (by intro z; cases z)
      simpa using this)))
  · exact .inl (.inr ⟨o, k _ _ h (by
      have : a ≠ la := ne_of h hl (by intro z; cases z)
      simpa using this)⟩)
  · exact .inr h
mutual
theorem dp_kept (k : Kept [la] H H') (hl : H la = some (.dK kvs)) : ∀ {v : V} {d : PyData}, Dp K H v d → Dp K H' v d
  | _, _, .non => .non
  | _, _, .bl b => .bl b
  | _, _, .int i => .int i
  | _, _, .str x => .str x
  | _, _, .lst h t => .lst (sql_kept k hl h) (dpAll_kept k hl t)
  | _, _, .tup h t => .tup (sqt_kept k hl h) (dpAll_kept k hl t)
theorem dpAll_kept (k : Kept [la] H H') (hl : H la = some (.dK kvs)) : ∀ {vs : List V} {ds : List PyData}, DpAll K H vs ds → DpAll K H' vs ds
  | _, _, .nil => .nil
  | _, _, .cons h t => .cons (dp_kept k hl h) (dpAll_kept k hl t)
end
end
theorem dp_tup_inv {K : PySem.W.Frag} {H : Hp} {v : V} {ds : List PyData} (h : Dp K H v (.tuple ds)) : ∃ a xs, v = .ref a ∧ SqT K H a xs ∧ DpAll K H xs ds := by
  cases h with
  | tup h1 h2 => exact ⟨_, _, rfl, h1, h2⟩
section
variable {K : PySem.W.Frag} {σ : L2.St} {H : Hp}
def Ev (K : PySem.W.Frag) (te : TE) (σ : L2.St) (H : Hp) (d : PyData) : Prop := ∀ (H1 : Hp) (Q : VK), Same H H1 → (∀ v H2, Dp K H2 v d → Same H1 H2 → Q v H2) → te σ H1 Q
def EvA (K : PySem.W.Frag) (t : TA) (σ : L2.St) (H : Hp) (ds : List PyData) : Prop := ∀ (H1 : Hp) (Q : List V → Hp → Prop), Same H H1 → (∀ vs H2, DpAll K H2 vs ds → Same H1 H2 → Q vs H2) → t σ H1 Q
def EvL (K : PySem.W.Frag) (te : TE) (σ : L2.St) (H : Hp) (ds : List PyData) : Prop := ∀ (H1 : Hp) (Q : VK), Same H H1 → (∀ a xs H2, H2 a = some (.lst xs) → DpAll K H2 xs ds → Same H1 H2 → Q (.ref a) H2) → te σ H1 Q
theorem EvL.ev {te : TE} {ds : List PyData} (h : EvL K te σ H ds) : Ev K te σ H (.list ds) := fun H1 Q s q => h H1 Q s fun a xs H2 e d s2 => q _ _ (.lst (SqL.of e) d) s2
theorem ev_int (i : Int) : Ev K (tC (.int i)) σ H (.int i) := fun H1 Q s q => q _ _ (.int i) (Same.refl _)
theorem ev_str (z : Str) : Ev K (tC (.str z)) σ H (.str z) := fun H1 Q s q => q _ _ (.str z) (Same.refl _)
theorem ev_non : Ev K (tC .non) σ H .none := fun H1 Q s q => q _ _ .non (Same.refl _)
theorem ev_bl (b : Bool) : Ev K (tC (.bl b)) σ H (.bool b) := fun H1 Q s q => q _ _ (.bl b) (Same.refl _)
theorem ev_var {i : Nat} {v : V} {d : PyData} (h : σ[i]? = some (some v)) (hd : Dp K H v d) : Ev K (tVar i) σ H d := fun H1 Q s q => ⟨v, h, q _ _ (dp_same s hd) (Same.refl _)⟩
theorem ev_varL {i : Nat} {a : Addr} {xs : List V} {ds : List PyData} (h : σ[i]? = some (some (.ref a))) (ha : H a = some (.lst xs)) (hd : DpAll K H xs ds) : EvL K (tVar i) σ H ds := fun H1 Q s q => ⟨_, h, q _ xs _ (s _ _ ha) (dpAll_same s hd) (Same.refl _)⟩
theorem eva_nil : EvA K tNil σ H [] := fun H1 Q s q => q _ _ .nil (Same.refl _)
theorem eva_cons {te : TE} {t : TA} {d : PyData} {ds : List PyData} (h : Ev K te σ H d) (h2 : EvA K t σ H ds) : EvA K (tCons te t) σ H (d :: ds) := fun H1 Q s q => h H1 _ s fun v H2 hd s2 => h2 H2 _ (s.trans s2) fun vs H3 hds s3 => q _ _ (.cons (dp_same s3 hd) hds) (s2.trans s3)
theorem dpAll_of26 {H : Hp} : ∀ {xs : List V} {ds : List PyData}, xs.length = ds.length → (∀ (j : Nat) (v : V) (d : PyData), xs[j]? = some v → ds[j]? = some d → Dp K H v d) → DpAll K H xs ds
  | [], [], _, _ => .nil
  | [], _ :: _, h, _ => by simp at h
  | _ :: _, [], h, _ => by simp at h
  | x :: r, d :: ds, h, f => .cons (f 0 x d rfl rfl) (dpAll_of26 (by simpa using h) (fun j v e h1 h2 => f (j + 1) v e h1 h2))
theorem dpAll_len {xs : List V} {ds : List PyData} {H : Hp} (h : DpAll K H xs ds) : xs.length = ds.length := (dpAll_at h).1
theorem ev_tup {t : TA} {ds : List PyData} (h : EvA K t σ H ds) (hl : ds.length ≤ 1000) : Ev K (tTup t) σ H (.tuple ds) := fun H1 Q s q => h H1 _ s fun vs H2 hds s2 => ⟨by rw [dpAll_len hds]; exact Nat.le_trans hl (by decide), fun p np => by
  have s3 : Same H2 (upd H2 p (.tup vs)) := Same.new (Same.refl _) np
  exact q _ _ (.tup (SqT.of upd_same) (dpAll_same s3 hds)) (s2.trans s3)⟩
theorem ev_lst {t : TA} {ds : List PyData} (h : EvA K t σ H ds) (hl : ds.length ≤ 1000) : EvL K (tLst t) σ H ds := fun H1 Q s q => h H1 _ s fun vs H2 hds s2 => ⟨by rw [dpAll_len hds]; exact Nat.le_trans hl (by decide), fun p np => by
  have s3 : Same H2 (upd H2 p (.lst vs)) := Same.new (Same.refl _) np
  exact q _ _ _ upd_same (dpAll_same s3 hds) (s2.trans s3)⟩
theorem dpAll_app {xs ys : List V} {ds es : List PyData} (h : DpAll K H xs ds) (h2 : DpAll K H ys es) : DpAll K H (xs ++ ys) (ds ++ es) := by
  induction xs generalizing ds with
  | nil =>
    cases h
    exact h2
  | cons x r ih =>
    cases h with
    | cons a b => exact .cons a (ih b)
theorem dpAll_take {xs : List V} {ds : List PyData} (h : DpAll K H xs ds) (n : Nat) : DpAll K H (xs.take n) (ds.take n) := by
  induction n generalizing xs ds with
  | zero => exact .nil
  | succ n ih =>
    cases h with
    | nil => exact .nil
    | cons a b => exact .cons a (ih b)
theorem dpAll_drop {xs : List V} {ds : List PyData} (h : DpAll K H xs ds) (n : Nat) : DpAll K H (xs.drop n) (ds.drop n) := by
  induction n generalizing xs ds with
  | zero => exact h
  | succ n ih =>
    cases h with
    | nil => exact .nil
    | cons a b => exact ih b
theorem ev_cat {ta tb : TE} {ds es : List PyData} (h : EvL K ta σ H ds) (h2 : EvL K tb σ H es) (hl : ds.length + es.length ≤ 1000) : EvL K (tOp rCat ta tb) σ H (ds ++ es) := fun H1 Q s q => h H1 _ s fun a xs H2 ha hds s2 => h2 H2 _ (s.trans s2) fun b ys H3 hb hes s3 =>
  ⟨a, b, xs, ys, rfl, rfl, s3 _ _ ha, hb, by rw [dpAll_len hds, dpAll_len hes]; exact Nat.le_trans hl (by decide), fun p np => by
    have s4 : Same H3 (upd H3 p (.lst (xs ++ ys))) := Same.new (Same.refl _) np
    exact q _ _ _ upd_same (dpAll_same s4 (dpAll_app (dpAll_same s3 hds) hes)) ((s2.trans s3).trans s4)⟩
def EvI (te : TE) (σ : L2.St) (i : Int) : Prop := ∀ (H1 : Hp) (Q : VK), Q (.int i) H1 → te σ H1 Q
theorem evi_c (i : Int) : EvI (tC (.int i)) σ i := fun H1 Q q => q
theorem evi_var {n : Nat} {i : Int} (h : σ[n]? = some (some (.int i))) : EvI (tVar n) σ i := fun H1 Q q => ⟨_, h, q⟩
theorem evi_add {ta tb : TE} {i j : Int} (h : EvI ta σ i) (h2 : EvI tb σ j) : EvI (tOp (rI0 fun i j => .int (i + j)) ta tb) σ (i + j) := fun H1 Q q => h _ _ (h2 _ _ ⟨_, _, rfl, rfl, q⟩)
theorem EvI.ev {te : TE} {i : Int} (h : EvI te σ i) : Ev K te σ H (.int i) := fun H1 Q s q => h _ _ (q _ _ (.int i) (Same.refl _))
theorem dpAll_rep {x : V} {d : PyData} (h : Dp K H x d) : ∀ n : Nat, DpAll K H (List.replicate n [x]).flatten (List.replicate n d)
  | 0 => .nil
  | n + 1 => by
    rw [List.replicate_succ, List.flatten_cons, List.replicate_succ]
    exact .cons h (dpAll_rep h n)
theorem ev_rep {ta tb : TE} {d : PyData} {n : Nat} (h : EvL K ta σ H [d]) (h2 : EvI tb σ (n : Int)) (hl : n ≤ 1000) : EvL K (tOp rRep ta tb) σ H (List.replicate n d) := fun H1 Q s q => h H1 _ s fun a xs H2 ha hds s2 => h2 _ _ (by
  cases hds with
  | cons hx hn =>
    cases hn
    rename_i x
    refine ⟨a, (n : Int), [x], rfl, rfl, ha, by omega, by omega, ?_, fun p np => ?_⟩
    · show 1 * _ ≤ _
      rw [Int.toNat_natCast, Nat.one_mul]
      exact Nat.le_trans hl (by decide)
    · rw [Int.toNat_natCast]
      have s3 : Same H2 (upd H2 p (.lst (List.replicate n [x]).flatten)) := Same.new (Same.refl _) np
      exact q _ _ _ upd_same (dpAll_rep (dp_same s3 hx) n) (s2.trans s3))
theorem ev_take {te : TE} {ds : List PyData} {n : Nat} (h : EvL K te σ H ds) : EvL K (tSl (rSlL K) te tNoPart (tPart (tC (.int (n : Int))))) σ H (ds.take n) := fun H1 Q s q => h H1 _ s fun a xs H2 ha hds s2 => ⟨_, rfl, a, xs, rfl, SqL.of ha, fun p np => by
  rw [cut_take]
  have s3 : Same H2 (upd H2 p (.lst (xs.take n))) := Same.new (Same.refl _) np
  exact q _ _ _ upd_same (dpAll_same s3 (dpAll_take hds n)) (s2.trans s3)⟩
theorem cut_drop26 {xs : List V} {n : Nat} : cutV xs (some (n : Int)) none = xs.drop n := by
  unfold cutV
  rw [HT.sIx_nat]
  have e : HT.sIx xs.length xs.length none = xs.length := rfl
  rw [e, List.take_of_length_le (by rw [List.length_drop]; omega)]
  by_cases h : n ≤ xs.length
  · rw [Nat.min_eq_left h]
  · rw [Nat.min_eq_right (by omega), List.drop_of_length_le (Nat.le_refl _), List.drop_of_length_le (by omega)]
theorem ev_drop {te : TE} {ds : List PyData} {n : Nat} (h : EvL K te σ H ds) : EvL K (tSl (rSlL K) te (tPart (tC (.int (n : Int)))) tNoPart) σ H (ds.drop n) := fun H1 Q s q => h H1 _ s fun a xs H2 ha hds s2 => ⟨_, rfl, a, xs, rfl, SqL.of ha, fun p np => by
  rw [cut_drop26]
  have s3 : Same H2 (upd H2 p (.lst (xs.drop n))) := Same.new (Same.refl _) np
  exact q _ _ _ upd_same (dpAll_same s3 (dpAll_drop hds n)) (s2.trans s3)⟩
theorem ev_ix {te : TE} {ds : List PyData} {n : Nat} {d : PyData} (h : EvL K te σ H ds) (hd : ds[n]? = some d) : Ev K (tOp (rIxL K) te (tC (.int (n : Int)))) σ H d := fun H1 Q s q => h H1 _ s fun a xs H2 ha hds s2 => by
  obtain ⟨h1, h2⟩ := dpAll_at hds
  have hn : n < xs.length := by
    have := (List.getElem?_eq_some_iff.mp hd).1
    omega
  have hx := List.getElem?_eq_getElem hn
  refine ⟨a, xs, (n : Int), xs[n], rfl, rfl, SqL.of ha, ?_, q _ _ (h2 n _ _ hx hd) s2⟩
  unfold atI
  rw [ix_ok (by omega) (by omega)]
  show xs[((n : Nat) : Int).toNat]? = _
  rw [Int.toNat_natCast]
  exact hx
theorem wipe26 {σ : L2.St} {i : Nat} {x : Option V} : wipe ((wipe σ [i]).set i x) [i] = wipe σ [i] := by
  show ((σ.set i none).set i x).set i none = σ.set i none
  rw [List.set_set, List.set_set]
theorem look26 {σ : L2.St} {i : Nat} {x : Option V} (h : i < σ.length) : ((wipe σ [i]).set i x)[i]? = some x := by
  show ((σ.set i none).set i x)[i]? = _
  rw [List.getElem?_set_self (by rw [List.length_set]; exact h)]
theorem ev_pairs {i : Nat} {ds : List PyData} {z : Str} {te : TE} (h : EvL K te σ H ds) (hj : i < σ.length) (hl : ds.length ≤ 1000) :
    EvL K (tLc (iList K te) (gName i) tYes (tTup (tCons (tVar i) (tCons (tC (.str z)) tNil))) [i]) σ H (ds.map fun d => .tuple [d, .str z]) := fun H1 Q s q => h H1 _ s fun a xs H2 ha hds s2 => ⟨a, rfl, ⟨xs, SqL.of ha⟩, fun R nR => by
    obtain ⟨h1, h2⟩ := dpAll_at hds
    refine lc_list (K := K) (a := a) (xs := xs) (fun i H5 => ∃ ps, TupsAt H5 R ps ((xs.take i).map fun x => [x, .str z]) ∧ Same H2 H5)
      ⟨[], ⟨upd_same, rfl, fun j p vs e => by simp at e⟩, Same.new (Same.refl _) nR⟩ (fun i H5 _ ⟨_, _, s5⟩ => SqL.of (s5 _ _ ha)) ?_ ?_
    · rintro k x H5 hx ⟨ps, T5, s5⟩
      have hk := (List.getElem?_eq_some_iff.mp hx).1
      refine ⟨wipe26, yes ?_⟩
      refine ⟨x, look26 hj, by show 2 ≤ sizeLine; decide, fun p np => ?_⟩
      have s6 : Same H5 (upd H5 p (.tup [x, .str z])) := Same.new (Same.refl _) np
      have hp : upd H5 p (.tup [x, .str z]) p = some (.tup [x, .str z]) := upd_same
      generalize upd H5 p (.tup [x, .str z]) = H6 at s6 hp
      have T6 := T5.keep s6
      refine ⟨_, T6.lst, ?_, ps ++ [p], ?_, ?_⟩
      · rw [List.length_map, T6.len, List.length_map, List.length_take]
        exact Nat.lt_of_le_of_lt (show min k xs.length ≤ 1000 by omega) (by decide)
      · have := T6.push hp
        rw [List.map_append (l₁ := ps)] at this
        rw [List.take_add_one, hx, List.map_append (l₁ := xs.take k)]
        exact this
      · intro b o e
        rw [upd_ne (ne_of_none e nR)]
        exact s6 _ _ (s5 _ _ e)
    · rintro H5 ⟨ps, T5, s5⟩
      rw [List.take_length] at T5
      refine q _ _ _ T5.lst ?_ (s2.trans s5)
      refine dpAll_of26 (by rw [List.length_map, T5.len, List.length_map, List.length_map, h1]) (fun j v d e1 e2 => ?_)
      rw [List.getElem?_map] at e1 e2
      cases hpj : ps[j]? with
      | none => rw [hpj] at e1; cases e1
      | some p =>
        rw [hpj] at e1
        cases e1
        cases hdj : ds[j]? with
        | none => rw [hdj] at e2; cases e2
        | some d0 =>
          rw [hdj] at e2
          cases e2
          have hjx : j < xs.length := by
            have := (List.getElem?_eq_some_iff.mp hdj).1
            omega
          have hx := List.getElem?_eq_getElem hjx
          have ht := T5.at_ j p _ hpj (by rw [List.getElem?_map, hx]; rfl)
          exact .tup (SqT.of ht) (.cons (dp_same s5 (h2 j _ _ hx hdj)) (.cons (.str z) .nil))⟩
theorem ev_dget {n m : Nat} {z : Str} {la A : Addr} {kvs : List (Key × V)} {xs : List V} {ds : List PyData} (h1 : σ[n]? = some (some (.ref la))) (h2 : σ[m]? = some (some (.str z))) (hl : H la = some (.dK kvs)) (hv : valV kvs (.inr z) = some (.ref A)) (hA : H A = some (.lst xs)) (dA : DpAll K H xs ds) : EvL K (tDGet (tVar n) (tVar m)) σ H ds := fun H1 Q s q =>
  ⟨_, h1, _, h2, la, .ref A, rfl, hv ▸ DGet.k (k := .inr z) (s _ _ hl), q A xs H1 (s _ _ hA) (dpAll_same s dA) (Same.refl _)⟩
theorem ev_dgetT {n m : Nat} {z : Str} {la : Addr} {kvs : List (Key × V)} {S : V} {d : PyData} (h1 : σ[n]? = some (some (.ref la))) (h2 : σ[m]? = some (some (.str z))) (hl : H la = some (.dK kvs)) (hv : valV kvs (.inr z) = some S) (dS : Dp K H S d) : Ev K (tDGet (tVar n) (tVar m)) σ H d := fun H1 Q s q =>
  ⟨_, h1, _, h2, la, S, rfl, hv ▸ DGet.k (k := .inr z) (s _ _ hl), q S H1 (dp_same s dS) (Same.refl _)⟩
theorem ev_listof {te : TE} {ds : List PyData} (h : Ev K te σ H (.tuple ds)) : EvL K (tCB (fun xs H Q => ∃ p ys, xs = [.ref p] ∧ (SqL K H p ys ∨ SqT K H p ys) ∧ ∀ l, H l = none → Q (.ref l) (L2.upd H l (.lst ys))) (tCons te tNil)) σ H ds := fun H1 Q s q => h H1 _ s fun v H2 dv s2 => by
  obtain ⟨a, xs, rfl, h1, h2⟩ := dp_tup_inv dv
  refine ⟨a, xs, rfl, .inr h1, fun l nl => ?_⟩
  have s3 : Same H2 (L2.upd H2 l (.lst xs)) := Same.new (Same.refl _) nl
  exact q _ _ _ upd_same (dpAll_same s3 h2) (s2.trans s3)
theorem alike26 {n : Nat} {t1 t2 : TE} {d : PyData} {b u : TS} {D : Ends} (h1 : Ev K t1 σ H d) (h2 : Ev K t2 σ H d) (hs : Sm d) (hd : PyData.depth d ≤ n) (nx : ∀ H', Same H H' → u D σ H') : tIfS (tNot (tB (tCallR (sp_alike K n) (tCons t1 (tCons t2 tNil))))) b u D σ H :=
  h1 H _ (Same.refl H) fun v1 H1 e1 s1 => h2 H1 _ s1 fun v2 H2 e2 s2 => ⟨_, _, d, rfl, dp_same s2 e1, e2, hs, hd, fun H3 s3 => ⟨_, rfl, iteF (nx _ ((s1.trans s2).trans s3))⟩⟩
def isSc : V → Bool
  | .non => true
  | .bl _ => true
  | .int _ => true
  | .str _ => true
  | _ => false
def scD : V → PyData
  | .bl b => .bool b
  | .int i => .int i
  | .str z => .str z
  | _ => .none
theorem dp_sc {v : V} (h : isSc v = true) : Dp K H v (scD v) := by
  cases v <;> first | exact .non | exact .bl _ | exact .int _ | exact .str _ | cases h
theorem dpAll_sc : ∀ {vs : List V}, vs.all isSc = true → DpAll K H vs (vs.map scD)
  | [], _ => .nil
  | v :: r, h => by
    rw [List.all_cons, Bool.and_eq_true] at h
    exact .cons (dp_sc h.1) (dpAll_sc h.2)
theorem tups_sc {R : Addr} {ps : List Addr} {xs : List (List V)} (T : TupsAt H R ps xs) (h : (xs.all fun vs => vs.all isSc) = true) : Dp K H (.ref R) (.list (xs.map fun vs => .tuple (vs.map scD))) := by
  refine .lst (SqL.of T.lst) (dpAll_of26 (by rw [List.length_map, List.length_map, T.len]) (fun j v d e1 e2 => ?_))
  rw [List.getElem?_map] at e1 e2
  cases hp : ps[j]? with
  | none => rw [hp] at e1; cases e1
  | some p =>
    rw [hp] at e1
    cases e1
    cases hx : xs[j]? with
    | none => rw [hx] at e2; cases e2
    | some x =>
      rw [hx] at e2
      cases e2
      exact .tup (SqT.of (T.at_ j p x hp hx)) (dpAll_sc (List.all_eq_true.mp h x (List.mem_of_getElem? hx)))
theorem alikeR26 {n : Nat} {t1 t2 : TE} {d : PyData} {D : Ends} (h1 : Ev K t1 σ H d) (h2 : Ev K t2 σ H d) (hs : Sm d) (hd : PyData.depth d ≤ n) (nx : ∀ H', Same H H' → D.rt (.bl true) H') : tRet (tCallR (sp_alike K n) (tCons t1 (tCons t2 tNil))) D σ H :=
  h1 H _ (Same.refl H) fun v1 H1 e1 s1 => h2 H1 _ s1 fun v2 H2 e2 s2 => ⟨_, _, d, rfl, dp_same s2 e1, e2, hs, hd, fun H3 s3 => nx _ ((s1.trans s2).trans s3)⟩
theorem neD26 {t1 t2 : TE} {d : PyData} {Q : Bool → Hp → Prop} (h1 : Ev K t1 σ H d) (h2 : Ev K t2 σ H d) (hs : SeqAt.shaped d = true) (k : ∀ H', Same H H' → Q false H') : tTest (tOp (rNeD K) t1 t2) σ H Q :=
  h1 H _ (Same.refl H) fun v1 H1 e1 s1 => h2 H1 _ s1 fun v2 H2 e2 s2 => ⟨d, d, dp_same s2 e1, e2, hs, hs, _, rfl, by
    rw [eqv_self hs]
    exact k _ (s1.trans s2)⟩
theorem dp_some {o : Option Int} {i : Int} (h : o = some i) : Dp K H (oV o) (.int i) := by
  rw [h]
  exact .int i
theorem dp_none {o : Option Int} (h : o = none) : Dp K H (oV o) .none := by
  rw [h]
  exact .non
end
end SB

set_option Elab.async false
set_option linter.all false
set_option maxRecDepth 100000
namespace L2
open PySem PySem.Spec PyProof.Rows
section
variable {X : Cx}
def rUpdD : V → List V → Hp → VK → Prop := fun x vs H Q => ∃ (a o : Addr) (kvs more : List (Key × V)), x = .ref a ∧ vs = [.ref o] ∧ H a = some (.dK kvs) ∧ H o = some (.dK more) ∧ a ≠ o ∧ kvs.length + more.length ≤ sizeLine ∧ Q .non (upd H a (.dK (mergeK kvs more)))
theorem mt_updD : MtM X "dict.update" rUpdD := by
  intro pins s σ H x vs v us Q I rx rv h
  obtain ⟨a, o, kvs, more, rfl, rfl, hH, hO, hne, hz, q⟩ := h
  cases rx
  obtain ⟨u, rfl, ru⟩ := rv.one
  cases ru
  obtain ⟨z, hsm, vs0, r0, dd⟩ := dk_of I.hok hH
  obtain ⟨z2, hsm2, vs2, r2, dd2⟩ := dk_of I.hok hO
  have hlen : (mergeK kvs more).length ≤ sizeLine := Nat.le_trans (length_mergeK more kvs) (by omega)
  refine call_meetsIn F.slot_dict_update dd.typeIs F.entry_dict_update (F.args_dict_update_2 _ _) (meets_dict_update (mixKind X.prog X.w) a o hne hsm2)
    ⟨vs0, vs2, dd, dd2, (by rw [← r0.length, ← r2.length]; exact hz), fun h' hmm _ hs => ?_⟩
  have he : ∃ q, h'.get? a = some q := let ⟨q, _, _, hq, _⟩ := hmm; ⟨q, hq⟩
  exact ⟨.non, _, I.write (t' := s.toks) (x := a) (e := a) (by rw [hH]; exact True.intro) (.inl rfl) (fun b o hb e => by rw [hs.2 b hb]; exact e) he (dk_new hlen hsm (KV.merge r2 r0) hmm), rfl, q⟩
end
end L2

set_option Elab.async false
set_option linter.all false
set_option maxRecDepth 100000
set_option maxHeartbeats 1000000
namespace SB
open PySem L2 StX
def RL (K : PySem.W.Frag) (H : Hp) : Option V → Option (List PyData) → Prop
  | some v, some ds => ∃ a xs, v = .ref a ∧ H a = some (.lst xs) ∧ DpAll K H xs ds
  | none, none => True
  | _, _ => False
def DL (K : PySem.W.Frag) (H : Hp) (cs : List (Key × V)) (tb : Str → Option (List PyData)) : Prop := ∀ z : Str, RL K H (valV cs (.inr z)) (tb z)
section
variable {K : PySem.W.Frag} {H H' : Hp} {cs ds : List (Key × V)} {ta tb : Str → Option (List PyData)} {σ : L2.St}
theorem RL.same {o : Option V} {t : Option (List PyData)} (h : RL K H o t) (s : Same H H') : RL K H' o t := by
  cases o <;> cases t <;> first | exact h | skip
  obtain ⟨a, xs, e, h1, h2⟩ := h
  exact ⟨a, xs, e, s _ _ h1, dpAll_same s h2⟩
theorem DL.same (h : DL K H cs ta) (s : Same H H') : DL K H' cs ta := fun z => (h z).same s
theorem valV_merge (k : Key) : ∀ (more kvs : List (Key × V)), (more.map (·.1)).Nodup → valV (mergeK kvs more) k = (valV more k).or (valV kvs k)
  | [], kvs, _ => rfl
  | (k0, v0) :: r, kvs, nd => by
    have nd := List.nodup_cons.mp nd
    show valV (mergeK (putK kvs k0 v0) r) k = _
    rw [valV_merge k r _ nd.2, valV_put]
    by_cases e : k = k0
    · subst e
      have hn : valV r k = none := by
        cases q : valV r k with
        | none => rfl
        | some y =>
          exfalso
          unfold valV at q
          cases q2 : r.find? (fun kv => decide (kv.1 = k)) with
          | none => rw [q2] at q; cases q
          | some p =>
            have h1 := List.mem_of_find?_eq_some q2
            have h2 := List.find?_some q2
            have h2 : p.1 = k := of_decide_eq_true h2
            exact nd.1 (by rw [← h2]; exact List.mem_map.mpr ⟨p, h1, rfl⟩)
      rw [hn, if_pos rfl, valV_pos rfl]
      rfl
    · rw [if_neg e, valV_neg (fun z => e z.symm)]
theorem DL.merge (h : DL K H cs ta) (h2 : DL K H ds tb) (nd : (ds.map (·.1)).Nodup) : DL K H (mergeK cs ds) (fun z => (tb z).or (ta z)) := fun z => by
  rw [valV_merge _ _ _ nd]
  show RL K H ((valV ds (.inr z)).or (valV cs (.inr z))) ((tb z).or (ta z))
  have a := h z
  have b := h2 z
  cases q : valV ds (.inr z) with
  | none =>
    rw [q] at b
    cases q2 : tb z with
    | some _ => rw [q2] at b; exact b.elim
    | none => rw [Option.none_or, Option.none_or]; exact a
  | some v =>
    rw [q] at b
    cases q2 : tb z with
    | none => rw [q2] at b; exact b.elim
    | some _ => rw [q2] at b; rw [Option.some_or, Option.some_or]; exact b
theorem ev_tp : ∀ (l : List (Str × TE × List PyData)) (H1 : Hp) (Q : List (V × V) → Hp → Prop), (∀ x ∈ l, EvL K x.2.1 σ H x.2.2) → Same H H1 →
    (∀ (ps : List (V × V)) (kvs : List (Key × V)) (H2 : Hp), ps = kvs.map (fun kv => (kV kv.1, kv.2)) → kvs.map (·.1) = l.map (fun x => Sum.inr x.1) → DL K H2 kvs (fun z => (l.map fun x => (x.1, x.2.2)).lookup z) → Same H1 H2 → Q ps H2) → tPairs (l.map fun x => (tC (.str x.1), x.2.1)) σ H1 Q
  | [], H1, Q, _, _, q => q [] [] H1 rfl rfl (fun z => True.intro) (Same.refl _)
  | x :: r, H1, Q, h, s, q => by
    refine h x List.mem_cons_self H1 _ s (fun a xs H2 ha hds s2 => ?_)
    refine ev_tp r H2 _ (fun y hy => h y (List.mem_cons_of_mem _ hy)) (s.trans s2) (fun ps kvs H3 e1 e2 d3 s3 => ?_)
    refine q _ ((.inr x.1, .ref a) :: kvs) H3 (by rw [e1]; rfl) (by rw [List.map_cons, e2]; rfl) (fun z => ?_) (s2.trans s3)
    by_cases c : z = x.1
    · subst c
      rw [valV_pos rfl]
      show RL K H3 _ (((x.1, x.2.2) :: _).lookup x.1)
      rw [List.lookup, show (x.1 == x.1) = true by simp]
      exact ⟨a, xs, rfl, s3 _ _ ha, dpAll_same s3 hds⟩
    · rw [valV_neg (fun z2 => c (Sum.inr.inj z2).symm)]
      show RL K H3 _ (((x.1, x.2.2) :: _).lookup z)
      rw [List.lookup, show (z == x.1) = false by simpa using c]
      exact d3 z
theorem ev_disp (l : List (Str × TE × List PyData)) (h : ∀ x ∈ l, EvL K x.2.1 σ H x.2.2) (nd : (l.map (·.1)).Nodup) (h15 : l.length ≤ 15) {H1 : Hp} {Q : VK} (s : Same H H1)
    (q : ∀ (p : Addr) (cs : List (Key × V)) (H2 : Hp), H1 p = none → H2 p = some (.dK cs) → cs.length ≤ 15 → (cs.map (·.1)).Nodup → DL K H2 cs (fun z => (l.map fun x => (x.1, x.2.2)).lookup z) → Same H1 H2 → Q (.ref p) H2) : tDisp (l.map fun x => (tC (.str x.1), x.2.1)) σ H1 Q := fun p np => by
  have s1 : Same H1 (upd H1 p (.dK [])) := Same.new (Same.refl _) np
  refine ev_tp (K := K) (H := H) l _ _ h (s.trans s1) (fun ps kvs H2 e1 e2 d2 s2 => ⟨s2 _ _ upd_same, kvs, e1, ?_, ?_⟩)
  · have := congrArg List.length e2
    rw [List.length_map, List.length_map] at this
    omega
  · have ndk : (kvs.map (·.1)).Nodup := by
      rw [e2]
      have : (l.map fun x => (Sum.inr x.1 : Key)) = (l.map (·.1)).map Sum.inr := by rw [List.map_map]; rfl
      rw [this]
      exact List.Pairwise.map _ (fun a b hab h => hab (Sum.inr.inj h)) nd
    have em : mergeK [] kvs = kvs := by
      have key : ∀ (more acc : List (Key × V)), ((acc ++ more).map (·.1)).Nodup → mergeK acc more = acc ++ more := by
        intro more
        induction more with
        | nil => intro acc _; simp [mergeK]
        | cons kv r ih =>
          intro acc hnd
          show mergeK (putK acc kv.1 kv.2) r = _
          have hn : (acc.any fun x => decide (x.1 = kv.1)) = false := by
            rw [List.any_eq_false]
            intro x hx
            have : x.1 ≠ kv.1 := fun z => by
              rw [List.map_append, List.nodup_append] at hnd
              exact hnd.2.2 x.1 (List.mem_map.mpr ⟨x, hx, rfl⟩) kv.1 (by simp) z
            simpa using this
          unfold putK
          rw [hn, if_neg (by decide), ih _ (by simpa using hnd)]
          simp
      exact key kvs [] (by simpa using ndk)
    rw [em]
    have same2 : Same H1 (upd H2 p (.dK kvs)) := fun b o e => by
      rw [upd_ne (ne_of_none e np)]
      exact s2 _ _ (s1 _ _ e)
    refine q p kvs _ np upd_same (by
      have := congrArg List.length e2
      rw [List.length_map, List.length_map] at this
      omega) ndk (fun z => ?_) same2
    have hz : RL K H2 (valV kvs (.inr z)) ((l.map fun x => (x.1, x.2.2)).lookup z) := d2 z
    have pdk := s2 p _ upd_same
    show RL K (upd H2 p (.dK kvs)) (valV kvs (.inr z)) ((l.map fun x => (x.1, x.2.2)).lookup z)
    generalize valV kvs (.inr z) = o at hz
    generalize (l.map fun x => (x.1, x.2.2)).lookup z = t at hz
    cases o with
    | none => cases t <;> exact hz
    | some v =>
      cases t with
      | none => exact hz
      | some ds =>
        obtain ⟨a, xs, e, h1, h2⟩ := hz
        have kp : Kept [p] H2 (upd H2 p (.dK kvs)) := (Kept.refl _ _).put (by simp)
        have na : a ≠ p := ne_of h1 pdk (by intro z; cases z)
        exact ⟨a, xs, e, by rw [upd_ne na]; exact h1, dpAll_kept kp pdk h2⟩
end
end SB

set_option Elab.async false
set_option linter.all false
set_option maxRecDepth 100000
set_option maxHeartbeats 2000000
namespace SB
open PySem PySem.Spec PyProof.Rows L2
def rEqNil (K : PySem.W.Frag) : R2 := fun x y H Q => ∃ (a b : Addr) (xs : List V), x = .ref a ∧ SqL K H a xs ∧ y = .ref b ∧ SqL K H b [] ∧ Q (.bl xs.isEmpty) H
def rNeNil (K : PySem.W.Frag) : R2 := fun x y H Q => ∃ (a b : Addr) (xs : List V), x = .ref a ∧ SqL K H a xs ∧ y = .ref b ∧ SqL K H b [] ∧ Q (.bl (!xs.isEmpty)) H
section
variable {X : Cx}
theorem op_eqNil (hu : X.A.units + 64 < cLine) : OpR X (compareOp .Eq) (rEqNil X.K) := by
  intro pins s σ H x y v u Q I rx ry h
  obtain ⟨a, b, xs, rfl, ha, rfl, hb, q⟩ := h
  obtain rfl : v = Value.ref a := rx
  obtain rfl : u = Value.ref b := ry
  obtain ⟨its, rv, hl, hz⟩ := I.list ha
  obtain ⟨its2, rv2, hl2, hz2⟩ := I.list hb
  have e2 : its2 = [] := by cases rv2; rfl
  subst e2
  have hlen : xs.length = its.length := rv.length
  cases xs with
  | nil =>
    have e1 : its = [] := by cases rv; rfl
    subst e1
    exact (SeqAt.RcAt.lists (e := fun _ => true) hl.isList hl2.isList rfl (by omega) (fun j h1 h2 => by simp at h1)) X.prog X.w _ _ ⟨.bl _, H, I, rfl, q⟩
  | cons x r =>
    exact (SeqAt.RcAt.lists_lengths hl.isList hl2.isList (by rw [List.size_toArray, ← hlen]; simp) (by omega)) X.prog X.w _ _ ⟨.bl _, H, I, rfl, q⟩
theorem op_neNil (hu : X.A.units + 64 < cLine) : OpR X (compareOp .NotEq) (rNeNil X.K) := by
  intro pins s σ H x y v u Q I rx ry h
  obtain ⟨a, b, xs, rfl, ha, rfl, hb, q⟩ := h
  obtain rfl : v = Value.ref a := rx
  obtain rfl : u = Value.ref b := ry
  obtain ⟨its, rv, hl, hz⟩ := I.list ha
  obtain ⟨its2, rv2, hl2, hz2⟩ := I.list hb
  have e2 : its2 = [] := by cases rv2; rfl
  subst e2
  have hlen : xs.length = its.length := rv.length
  cases xs with
  | nil =>
    have e1 : its = [] := by cases rv; rfl
    subst e1
    exact (SeqAt.RcNeAt.lists (e := fun _ => true) hl.isList hl2.isList rfl (by omega) (fun j h1 h2 => by simp at h1)) X.prog X.w _ _ ⟨.bl _, H, I, rfl, q⟩
  | cons x r =>
    exact (SeqAt.RcNeAt.lists_lengths hl.isList hl2.isList (by rw [List.size_toArray, ← hlen]; simp) (by omega)) X.prog X.w _ _ ⟨.bl _, H, I, rfl, q⟩
end
end SB

set_option Elab.async false
set_option linter.all false
set_option maxRecDepth 100000
set_option maxHeartbeats 1000000
namespace SB
open PySem L2 StX
def tL1 : List (Str × List PyData) := [("set", [.int 3, .int 999]), ("add", [.int 3, .int 3]), ("less", [.int 3, .int 3]), ("get", [.int 3, .int 31]), ("put", [.int 31, .int 3]), ("getx", [.int 3, .int 3])]
def tL2 (n : Int) : List (Str × List PyData) := [("putx", [.int 3, .int 3]), ("pair", [.int 2, .int 31]), ("lay", [.int 31, .int 2]), ("go", [.int (n - 1)]), ("if", [.int 3, .int (n - 1)]), ("ask", [.int 5])]
def tL3 : List (Str × List PyData) := [("done", [.int 3, .int 5]), ("mark", [.int 2]), ("clear", [.int 2]), ("rest", [.int 9]), ("end", [])]
def highs (bs : List (Int × Int)) : List PyData := bs.map fun b => .int b.2
def keys17 : List Str := ["set", "add", "less", "get", "put", "getx", "putx", "pair", "lay", "go", "if", "ask", "done", "mark", "clear", "rest", "end"]
theorem look_none {α : Type} {z : Str} : ∀ {l : List (Str × α)}, z ∉ l.map (·.1) → l.lookup z = none
  | [], _ => rfl
  | (y, x) :: r, h => by
    have h : z ∉ y :: r.map (·.1) := h
    rw [List.mem_cons, not_or] at h
    rw [List.lookup, show (z == y) = false by simpa using h.1]
    exact look_none h.2
theorem tab_eq (n : Int) (z : Str) : (tL3.lookup z).or (((tL2 n).lookup z).or (tL1.lookup z)) = ((formsD n).lookup z).map highs := by
  by_cases hz : z ∈ keys17
  · unfold keys17 at hz
    simp only [List.mem_cons, List.not_mem_nil, or_false] at hz
    rcases hz with rfl | rfl | rfl | rfl | rfl | rfl | rfl | rfl | rfl | rfl | rfl | rfl | rfl | rfl | rfl | rfl | rfl <;> kernel_rfl
  · have h1 : z ∉ tL1.map (·.1) := fun h => hz (by
      have h : z ∈ (["set", "add", "less", "get", "put", "getx"] : List Str) := h
      unfold keys17
      simp only [List.mem_cons, List.not_mem_nil, or_false] at h ⊢
      rcases h with rfl | rfl | rfl | rfl | rfl | rfl <;> simp)
    have h2 : z ∉ (tL2 n).map (·.1) := fun h => hz (by
      have h : z ∈ (["putx", "pair", "lay", "go", "if", "ask"] : List Str) := h
      unfold keys17
      simp only [List.mem_cons, List.not_mem_nil, or_false] at h ⊢
      rcases h with rfl | rfl | rfl | rfl | rfl | rfl <;> simp)
    have h3 : z ∉ tL3.map (·.1) := fun h => hz (by
      have h : z ∈ (["done", "mark", "clear", "rest", "end"] : List Str) := h
      unfold keys17
      simp only [List.mem_cons, List.not_mem_nil, or_false] at h ⊢
      rcases h with rfl | rfl | rfl | rfl | rfl <;> simp)
    have h4 : z ∉ (formsD n).map (·.1) := hz
    rw [look_none h1, look_none h2, look_none h3, look_none h4]
    rfl
theorem lows {n : Int} {z : Str} {bs : List (Int × Int)} (h : (formsD n).lookup z = some bs) : ∀ b ∈ bs, b.1 = if decide (z = "rest") = true then 1 else 0 := by
  have hm := lookup_mem h
  unfold formsD at hm
  simp only [List.mem_cons, List.not_mem_nil, or_false, Prod.mk.injEq] at hm
  rcases hm with ⟨rfl, rfl⟩ | ⟨rfl, rfl⟩ | ⟨rfl, rfl⟩ | ⟨rfl, rfl⟩ | ⟨rfl, rfl⟩ | ⟨rfl, rfl⟩ | ⟨rfl, rfl⟩ | ⟨rfl, rfl⟩ | ⟨rfl, rfl⟩ | ⟨rfl, rfl⟩ | ⟨rfl, rfl⟩ | ⟨rfl, rfl⟩ | ⟨rfl, rfl⟩ | ⟨rfl, rfl⟩ | ⟨rfl, rfl⟩ | ⟨rfl, rfl⟩ | ⟨rfl, rfl⟩ <;> intro b hb <;> simp only [List.mem_cons, List.not_mem_nil, or_false] at hb <;> first | (rcases hb with rfl | rfl <;> kernel_rfl) | (subst hb; kernel_rfl) | exact hb.elim
theorem bs_len {n : Int} {z : Str} {bs : List (Int × Int)} (h : (formsD n).lookup z = some bs) : bs.length ≤ 2 := by
  have hm := lookup_mem h
  unfold formsD at hm
  simp only [List.mem_cons, List.not_mem_nil, or_false, Prod.mk.injEq] at hm
  rcases hm with ⟨rfl, rfl⟩ | ⟨rfl, rfl⟩ | ⟨rfl, rfl⟩ | ⟨rfl, rfl⟩ | ⟨rfl, rfl⟩ | ⟨rfl, rfl⟩ | ⟨rfl, rfl⟩ | ⟨rfl, rfl⟩ | ⟨rfl, rfl⟩ | ⟨rfl, rfl⟩ | ⟨rfl, rfl⟩ | ⟨rfl, rfl⟩ | ⟨rfl, rfl⟩ | ⟨rfl, rfl⟩ | ⟨rfl, rfl⟩ | ⟨rfl, rfl⟩ | ⟨rfl, rfl⟩ <;> simp
theorem at_eqJ {xs : List V} {n : Nat} (h : n < xs.length) : atI xs (n : Int) = xs[n]? := by
  unfold atI ixN
  rw [if_pos (by omega), if_pos (by simpa using h)]
  rfl
section
variable {P : Program} {w : World} {K : PySem.W.Frag} {mg : Str → Option Value} {base : Heap} {H H' : Hp}
theorem ok_l_is (T : T w K mg) : FnR P w K mg base CX0 1 (He.ga K "_law_is") (sp_is_number K) := by
  obtain ⟨fd, F⟩ := T.f_l_is
  refine F.r sc_l_is (fun _ _ _ _ _ _ us hl => match us, hl with | [_, _, _], _ => rfl) (fun vs H Q E h => ?_) (fun cdv A outer s H vs Q E hr h => ?_)
  · obtain ⟨v, lo, hi, n, rfl, _⟩ := h
    rfl
  · obtain ⟨v, lo, hi, n, rfl, hv, k⟩ := h
    refine ⟨_, (pss_one (ps_ret (pe_and (pe_isi (n := "int") rfl T.u_isinstance rfl T.u_int (pv 0)) (pe_and (pe_not (pe_isi (n := "bool") rfl T.u_isinstance rfl T.u_bool (pv 0))) (pe_one (pe_chain op_le op_le (pv 1) (pv 0) (pv 2))))))), ?_⟩
    refine ⟨_, rfl, rfl, _, hv, _, rfl, ?_⟩
    cases hv with
    | int i =>
      refine iteT ⟨_, rfl, rfl, _, .int i, _, rfl, _, rfl, iteT ⟨_, rfl, _, rfl, _, _, rfl, rfl, _, rfl, ?_⟩⟩
      refine ite2 (fun c1 => ?_) (fun c1 => ?_)
      · refine ⟨_, rfl, _, _, rfl, rfl, ?_⟩
        have e : numB (.int i) lo hi = decide (i ≤ hi) := by
          show (decide (lo ≤ i) && decide (i ≤ hi)) = _
          rw [c1, Bool.true_and]
        rw [e] at k
        exact k
      · have e : numB (.int i) lo hi = false := by
          show (decide (lo ≤ i) && decide (i ≤ hi)) = _
          cases z : decide (lo ≤ i) with
          | true => exact absurd z c1
          | false => rfl
        rw [e] at k
        exact k
    | bl b => exact iteT ⟨_, rfl, rfl, _, .bl b, _, rfl, _, rfl, iteF k⟩
    | str x => exact iteF k
    | non => exact iteF k
    | tup h => exact iteF k
    | lst h => exact iteF k
theorem evd_nil {σ : L2.St} : ∀ x ∈ ([] : List (Str × TE × List PyData)), EvL K x.2.1 σ H x.2.2 := fun x h => by cases h
theorem evd_cons {σ : L2.St} {z : Str} {te : TE} {ds : List PyData} {l : List (Str × TE × List PyData)} (h : EvL K te σ H ds) (t : ∀ x ∈ l, EvL K x.2.1 σ H x.2.2) : ∀ x ∈ (z, te, ds) :: l, EvL K x.2.1 σ H x.2.2 := fun x hx => by
  rcases List.mem_cons.mp hx with rfl | hx
  · exact h
  · exact t x hx
theorem evi_sub1 {σ : L2.St} {n : Int} (h : σ[1]? = some (some (.int n))) : EvI (tOp (rI0 fun i j => .int (i - j)) (tVar 1) (tC (.int 1))) σ (n - 1) := fun H1 Q q => ⟨_, h, _, _, rfl, rfl, q⟩
theorem DL.put {cs : List (Key × V)} {p : Addr} {x y : List (Key × V)} {t : Str → Option (List PyData)} (h : DL K H cs t) (hp : H p = some (.dK x)) : DL K (upd H p (.dK y)) cs t := fun z => by
  have hz := h z
  cases q : valV cs (.inr z) with
  | none => rw [q] at hz; cases q2 : t z with
    | none => exact True.intro
    | some _ => rw [q2] at hz; exact hz.elim
  | some v =>
    rw [q] at hz
    cases q2 : t z with
    | none => rw [q2] at hz; exact hz.elim
    | some ds =>
      rw [q2] at hz
      obtain ⟨a, xs, e, h1, h2⟩ := hz
      have kp : Kept [p] H (upd H p (.dK y)) := (Kept.refl _ _).put (by simp)
      have na : a ≠ p := ne_of h1 hp (by intro z; cases z)
      exact ⟨a, xs, e, by rw [upd_ne na]; exact h1, dpAll_kept kp hp h2⟩
def sp_l_is_row (K : PySem.W.Frag) : Sp := fun vs H Q _ => ∃ (v : V) (d : PyData) (n : Int), vs = [v, .int n] ∧ Dp K H v d ∧ Pl 60 d ∧ ∀ H', Same H H' → Q (.bl (rowOkD n d)) H'
theorem ok_l_is_row (T : T w K mg) : FnR P w K mg base CX0 2 (He.ga K "_law_is_row") (sp_l_is_row K) := by
  have F_l_is : FnR P w K mg base CX0 1 _ _ := ok_l_is T
  obtain ⟨fd, F⟩ := T.f_l_is_row
  refine F.r sc_l_is_row (fun _ _ _ _ _ _ us hl => match us, hl with | [_, _], _ => rfl) (fun vs H Q E h => ?_) (fun cdv A outer s H vs Q E hr h => ?_)
  · obtain ⟨_, _, _, rfl, _⟩ := h
    rfl
  · obtain ⟨v, d, n, rfl, D, pl, q⟩ := h
    have hu := hr.units
    have hu1 : (A.deeper (PyProof.Rows.envOfC "_law_is_row" (defScope s_l_is_row) s.heap.objs.size (He.ga K "_law_is_row") cdv)).units + 1 < cLine := by omega
    have q0 := q H (Same.refl H)
    refine ⟨_, (pss_cons (ps_if (PW.pt (pw_or (pt_not (pt_val (pe_isi (n := "tuple") rfl T.u_isinstance rfl T.u_tuple (pv 0)))) (pw_or (pt_cmpR (op_eqD hu) (pv 0) (pe_tup pa_nil) (nomark _)) (pw_or1 (pt_not (pt_val (pe_isi (n := "str") rfl T.u_isinstance rfl T.u_str (pe_ix ix_tup (pv 0) pe_int (fun _ _ => rfl)))))))))
  (pss_one (ps_ret pe_bl))
  pss_nil)
  (pss_cons (ps_set (i := 2) sc_l_is_row.nd rfl (Or.inr rfl) (pe_disp (pps_cons pe_str (pe_lst (pa_cons pe_int (pa_cons pe_int pa_nil))) (pps_cons pe_str (pe_lst (pa_cons pe_int (pa_cons pe_int pa_nil))) (pps_cons pe_str (pe_lst (pa_cons pe_int (pa_cons pe_int pa_nil))) (pps_cons pe_str (pe_lst (pa_cons pe_int (pa_cons pe_int pa_nil))) (pps_cons pe_str (pe_lst (pa_cons pe_int (pa_cons pe_int pa_nil))) (pps_cons pe_str (pe_lst (pa_cons pe_int (pa_cons pe_int pa_nil))) pps_nil)))))) rfl rfl (by simp) (by decide)))
  (pss_cons (ps_expr (pe_bm PySem.F.plainAttrs_dict PySem.F.slot_dict_update PySem.F.type_dict_update mt_updD (pv 2) (pa_cons (pe_disp (pps_cons pe_str (pe_lst (pa_cons pe_int (pa_cons pe_int pa_nil))) (pps_cons pe_str (pe_lst (pa_cons pe_int (pa_cons pe_int pa_nil))) (pps_cons pe_str (pe_lst (pa_cons pe_int (pa_cons pe_int pa_nil))) (pps_cons pe_str (pe_lst (pa_cons (pe_op op_sub (pv 1) pe_int) pa_nil)) (pps_cons pe_str (pe_lst (pa_cons pe_int (pa_cons (pe_op op_sub (pv 1) pe_int) pa_nil))) (pps_cons pe_str (pe_lst (pa_cons pe_int pa_nil)) pps_nil)))))) rfl rfl (by simp) (by decide)) pa_nil)))
  (pss_cons (ps_expr (pe_bm PySem.F.plainAttrs_dict PySem.F.slot_dict_update PySem.F.type_dict_update mt_updD (pv 2) (pa_cons (pe_disp (pps_cons pe_str (pe_lst (pa_cons pe_int (pa_cons pe_int pa_nil))) (pps_cons pe_str (pe_lst (pa_cons pe_int pa_nil)) (pps_cons pe_str (pe_lst (pa_cons pe_int pa_nil)) (pps_cons pe_str (pe_lst (pa_cons pe_int pa_nil)) (pps_cons pe_str (pe_lst pa_nil) pps_nil))))) rfl rfl (by simp) (by decide)) pa_nil)))
  (pss_cons (ps_if (PW.pt (pw_or (pt_cmp (pc_dnotin hu1 (pe_ix ix_tup (pv 0) pe_int (fun _ _ => rfl)) (pv 2))) (pw_or1 (pt_cmpR op_ne (pe_callB call_len_seq rfl T.u_len PySem.boot_len (pa_cons (pv 0) pa_nil)) (pe_op op_add pe_int (pe_callB call_len_seq rfl T.u_len PySem.boot_len (pa_cons (pe_dget hu1 (pv 2) (pe_ix ix_tup (pv 0) pe_int (fun _ _ => rfl)) (fun _ _ => rfl)) pa_nil))) (nomark _)))))
  (pss_one (ps_ret pe_bl))
  pss_nil)
  (pss_cons (ps_set (i := 3) sc_l_is_row.nd rfl (Or.inr rfl) (pe_callTy call_int1 rfl T.u_int (by decide +kernel) (pa_cons (pe_cmpR op_eq (pe_ix ix_tup (pv 0) pe_int (fun _ _ => rfl)) pe_str (nomark _)) pa_nil)))
  (pss_one (ps_ret (pe_cmpR (op_eqD hu) (pe_lc (own := [("_law_k", 4)]) (g := gName 4) (tt := tNot (tB (tCallR (sp_is_number K) (tCons (tOp (rIxT K) (tVar 0) (tVar 4)) (tCons (tVar 3) (tCons (tOp (rIxL K) (tDGet (tVar 2) (tOp (rIxT K) (tVar 0) (tC (.int 0)))) (tOp (rI0 fun i j => .int (i - j)) (tVar 4) (tC (.int 1)))) tNil)))))) (te := tVar 4) rfl sc_l_is_row.nd (pi_range2 rfl T.u_range (pa_cons pe_int (pa_cons (pe_callB call_len_seq rfl T.u_len PySem.boot_len (pa_cons (pv 0) pa_nil)) pa_nil))) (blkOk_by (N := ["_law_row_here", "_law_many", "_law_most", "_law_least", "_law_k"]) (sc := defScope s_l_is_row) (by decide +kernel)) (fun _ _ _ _ _ => pg_name (i := 4) sc_l_is_row.nd rfl (Or.inl rfl)) (fun _ _ _ _ _ => pts_one (pt_not (pt_val (pe_callR F_l_is (hr.mono (by decide)) rfl T.g_l_is T.k_l_is (pa_cons (pe_ix ix_tup (pv 0) (pv 4) (fun _ _ => rfl)) (pa_cons (pv 3) (pa_cons (pe_ix ix_list (pe_dget hu1 (pv 2) (pe_ix ix_tup (pv 0) pe_int (fun _ _ => rfl)) (fun _ _ => rfl)) (pe_op op_sub (pv 4) pe_int) (fun _ _ => rfl)) pa_nil))))))) (fun _ _ _ _ _ => pv 4)) (pe_lst pa_nil) (nomark _)))))))))), ?_⟩
    have sh := pl.shaped (by decide)
    cases pl with
    | non n => cases D; exact ⟨_, rfl, rfl, _, .non, _, rfl, iteT (iteT q0)⟩
    | bl n b => cases D; exact ⟨_, rfl, rfl, _, .bl _, _, rfl, iteT (iteT q0)⟩
    | int n i => cases D; exact ⟨_, rfl, rfl, _, .int _, _, rfl, iteT (iteT q0)⟩
    | str n h => cases D; exact ⟨_, rfl, rfl, _, .str _, _, rfl, iteT (iteT q0)⟩
    | tup m a =>
      cases D with
      | tup ht hds =>
        rename_i pa vs0
        refine ⟨_, rfl, rfl, _, .tup ht, _, rfl, iteF ?_⟩
        refine ⟨_, rfl, by show 0 ≤ sizeLine; decide, fun e0 ne0 => ?_⟩
        generalize hG : upd H e0 _ = G1
        have s1 : Same H G1 := by rw [← hG]; exact Same.new (Same.refl _) ne0
        have he0 : G1 e0 = some (.tup []) := by rw [← hG]; exact upd_same
        clear hG
        have ht1 : SqT K G1 pa vs0 := Same.tup s1 ht
        have q1 := q G1 s1
        refine ⟨_, .tuple [], .tup ht1 (dpSs s1 hds), .tup (SqT.of he0) .nil, sh, rfl, _, rfl, ?_⟩
        cases hds with
        | nil => exact iteT (iteT q1)
        | cons d1 hds =>
          rename_i v1 vs a1 ds
          refine iteF ?_
          have p1 := a a1 (by simp)
          obtain ⟨nm1, t1⟩ := p1.ty d1
          refine ⟨_, rfl, _, _, _, _, rfl, rfl, ht1, at0 _ _, rfl, _, tyS s1 t1, _, rfl, ?_⟩
          cases p1 with
          | non n => cases d1; cases t1; exact iteT q1
          | bl n b => cases d1; cases t1; exact iteT q1
          | int n i => cases d1; cases t1; exact iteT q1
          | tup n _ => cases d1; cases t1 <;> exact iteT q1
          | str m2 hz =>
            rename_i z
            cases d1
            cases t1
            refine iteF ?_
            dsimp only [tNext, tSeq, tAsg, gName]
            refine ev_disp (K := K) (H := G1) (σ := [some (.ref pa), some (.int n), none, none, none]) [("set", (tLst (tCons (tC (.int 3)) (tCons (tC (.int 999)) tNil))), [.int 3, .int 999]), ("add", (tLst (tCons (tC (.int 3)) (tCons (tC (.int 3)) tNil))), [.int 3, .int 3]), ("less", (tLst (tCons (tC (.int 3)) (tCons (tC (.int 3)) tNil))), [.int 3, .int 3]), ("get", (tLst (tCons (tC (.int 3)) (tCons (tC (.int 31)) tNil))), [.int 3, .int 31]), ("put", (tLst (tCons (tC (.int 31)) (tCons (tC (.int 3)) tNil))), [.int 31, .int 3]), ("getx", (tLst (tCons (tC (.int 3)) (tCons (tC (.int 3)) tNil))), [.int 3, .int 3])] (evd_cons (ev_lst (eva_cons (ev_int 3) (eva_cons (ev_int 999) eva_nil)) (of_decide_eq_true rfl)) (evd_cons (ev_lst (eva_cons (ev_int 3) (eva_cons (ev_int 3) eva_nil)) (of_decide_eq_true rfl)) (evd_cons (ev_lst (eva_cons (ev_int 3) (eva_cons (ev_int 3) eva_nil)) (of_decide_eq_true rfl)) (evd_cons (ev_lst (eva_cons (ev_int 3) (eva_cons (ev_int 31) eva_nil)) (of_decide_eq_true rfl)) (evd_cons (ev_lst (eva_cons (ev_int 31) (eva_cons (ev_int 3) eva_nil)) (of_decide_eq_true rfl)) (evd_cons (ev_lst (eva_cons (ev_int 3) (eva_cons (ev_int 3) eva_nil)) (of_decide_eq_true rfl)) evd_nil)))))) (show (["set", "add", "less", "get", "put", "getx"] : List Str).Nodup by decide +kernel) (show 6 ≤ 15 by decide) (Same.refl _) (fun p1 cs1 G2 np1 hp1 lc1 nd1 dl1 s2 => ?_)
            dsimp only [L2.start, List.set]
            refine ⟨_, rfl, .inr (.inr (.inl ⟨rfl, .inl ⟨_, hp1⟩⟩)), ?_⟩
            refine ev_disp (K := K) (H := G2) (σ := [some (.ref pa), some (.int n), some (.ref p1), none, none]) [("putx", (tLst (tCons (tC (.int 3)) (tCons (tC (.int 3)) tNil))), [.int 3, .int 3]), ("pair", (tLst (tCons (tC (.int 2)) (tCons (tC (.int 31)) tNil))), [.int 2, .int 31]), ("lay", (tLst (tCons (tC (.int 31)) (tCons (tC (.int 2)) tNil))), [.int 31, .int 2]), ("go", (tLst (tCons (tOp (rI0 fun i j => .int (i - j)) (tVar 1) (tC (.int 1))) tNil)), [.int (n - 1)]), ("if", (tLst (tCons (tC (.int 3)) (tCons (tOp (rI0 fun i j => .int (i - j)) (tVar 1) (tC (.int 1))) tNil))), [.int 3, .int (n - 1)]), ("ask", (tLst (tCons (tC (.int 5)) tNil)), [.int 5])] (evd_cons (ev_lst (eva_cons (ev_int 3) (eva_cons (ev_int 3) eva_nil)) (of_decide_eq_true rfl)) (evd_cons (ev_lst (eva_cons (ev_int 2) (eva_cons (ev_int 31) eva_nil)) (of_decide_eq_true rfl)) (evd_cons (ev_lst (eva_cons (ev_int 31) (eva_cons (ev_int 2) eva_nil)) (of_decide_eq_true rfl)) (evd_cons (ev_lst (eva_cons (evi_sub1 rfl).ev eva_nil) (of_decide_eq_true rfl)) (evd_cons (ev_lst (eva_cons (ev_int 3) (eva_cons (evi_sub1 rfl).ev eva_nil)) (of_decide_eq_true rfl)) (evd_cons (ev_lst (eva_cons (ev_int 5) eva_nil) (of_decide_eq_true rfl)) evd_nil)))))) (show (["putx", "pair", "lay", "go", "if", "ask"] : List Str).Nodup by decide +kernel) (show 6 ≤ 15 by decide) (Same.refl _) (fun p2 cs2 G3 np2 hp2 lc2 nd2 dl2 s3 => ?_)
            refine ⟨p1, p2, cs1, cs2, rfl, rfl, s3 _ _ hp1, hp2, ne_of_none hp1 np2, Nat.le_trans (Nat.add_le_add lc1 lc2) (by decide), ?_⟩
            have dl12 : DL K G3 (mergeK cs1 cs2) (fun z => ((tL2 n).lookup z).or (tL1.lookup z)) := (DL.same dl1 s3).merge dl2 nd2
            have lc12 : (mergeK cs1 cs2).length ≤ 30 := Nat.le_trans (length_mergeK _ _) (by omega)
            have dl4 := dl12.put (s3 _ _ hp1) (y := mergeK cs1 cs2)
            have s4 : Same G1 (upd G3 p1 (.dK (mergeK cs1 cs2))) := fun b o e => by
              rw [upd_ne (ne_of_none e np1)]
              exact s3 _ _ (s2 _ _ e)
            have hp4 : upd G3 p1 (.dK (mergeK cs1 cs2)) p1 = some (.dK (mergeK cs1 cs2)) := upd_same
            generalize upd G3 p1 (.dK (mergeK cs1 cs2)) = G4 at dl4 s4 hp4
            clear dl12 dl1 dl2 hp1 hp2
            dsimp only [tNext, tSeq, tAsg, gName, tDrop]
            refine ⟨_, rfl, .inr (.inr (.inl ⟨rfl, .inl ⟨_, hp4⟩⟩)), ?_⟩
            refine ev_disp (K := K) (H := G4) (σ := [some (.ref pa), some (.int n), some (.ref p1), none, none]) [("done", (tLst (tCons (tC (.int 3)) (tCons (tC (.int 5)) tNil))), [.int 3, .int 5]), ("mark", (tLst (tCons (tC (.int 2)) tNil)), [.int 2]), ("clear", (tLst (tCons (tC (.int 2)) tNil)), [.int 2]), ("rest", (tLst (tCons (tC (.int 9)) tNil)), [.int 9]), ("end", (tLst tNil), [])] (evd_cons (ev_lst (eva_cons (ev_int 3) (eva_cons (ev_int 5) eva_nil)) (of_decide_eq_true rfl)) (evd_cons (ev_lst (eva_cons (ev_int 2) eva_nil) (of_decide_eq_true rfl)) (evd_cons (ev_lst (eva_cons (ev_int 2) eva_nil) (of_decide_eq_true rfl)) (evd_cons (ev_lst (eva_cons (ev_int 9) eva_nil) (of_decide_eq_true rfl)) (evd_cons (ev_lst eva_nil (of_decide_eq_true rfl)) evd_nil))))) (show (["done", "mark", "clear", "rest", "end"] : List Str).Nodup by decide +kernel) (show 5 ≤ 15 by decide) (Same.refl _) (fun p3 cs3 G5 np3 hp3 lc3 nd3 dl3 s5 => ?_)
            refine ⟨p1, p3, _, cs3, rfl, rfl, s5 _ _ hp4, hp3, ne_of_none hp4 np3, Nat.le_trans (Nat.add_le_add lc12 lc3) (by decide), ?_⟩
            have dl13 : DL K G5 (mergeK (mergeK cs1 cs2) cs3) (fun z => (tL3.lookup z).or (((tL2 n).lookup z).or (tL1.lookup z))) := (DL.same dl4 s5).merge dl3 nd3
            have dl6 := dl13.put (s5 _ _ hp4) (y := mergeK (mergeK cs1 cs2) cs3)
            have s6 : Same G1 (upd G5 p1 (.dK (mergeK (mergeK cs1 cs2) cs3))) := fun b o e => by
              rw [upd_ne (ne_of_none e np1)]
              exact s5 _ _ (s4 _ _ e)
            have hp6 : upd G5 p1 (.dK (mergeK (mergeK cs1 cs2) cs3)) p1 = some (.dK (mergeK (mergeK cs1 cs2) cs3)) := upd_same
            generalize upd G5 p1 (.dK (mergeK (mergeK cs1 cs2) cs3)) = G6 at dl6 s6 hp6
            generalize mergeK (mergeK cs1 cs2) cs3 = cs at dl6 hp6
            clear dl13 dl4 dl3 hp3 hp4 s4 s5 s3 s2
            have hz6 : RL K G6 (valV cs (.inr z)) (((formsD n).lookup z).map highs) := by rw [← tab_eq]; exact dl6 z
            have s06 := s1.trans s6
            have q6 := q G6 s06
            have ht6 : SqT K G6 pa (.str z :: vs) := Same.tup s06 ht
            have hat := dpAll_at hds
            have l1 : vs.length = ds.length := hat.1
            cases hl : (formsD n).lookup z with
            | none =>
              rw [hl] at hz6
              have hv : valV cs (.inr z) = none := by
                cases hv : valV cs (.inr z) with
                | none => rfl
                | some _ => rw [hv] at hz6; exact hz6.elim
              have er : rowOkD n (.tuple (.str z :: ds)) = false := by
                show (match (formsD n).lookup z with | some bs => numsD ds bs | none => false) = false
                rw [hl]
              rw [er] at q6
              exact ⟨_, rfl, _, _, _, _, rfl, rfl, ht6, at0 _ _, _, rfl, p1, none, rfl, hv ▸ DGet.k (k := .inr z) hp6, _, rfl, iteT (iteT q6)⟩
            | some bs =>
              rw [hl] at hz6
              obtain ⟨ax, xs, hv, hax, hxs⟩ : ∃ ax xs, valV cs (.inr z) = some (.ref ax) ∧ G6 ax = some (.lst xs) ∧ DpAll K G6 xs (highs bs) := by
                cases hv : valV cs (.inr z) with
                | none => rw [hv] at hz6; exact hz6.elim
                | some v =>
                  rw [hv] at hz6
                  obtain ⟨ax, xs, e, h1, h2⟩ := hz6
                  exact ⟨ax, xs, by rw [e], h1, h2⟩
              have er : rowOkD n (.tuple (.str z :: ds)) = numsD ds bs := by
                show (match (formsD n).lookup z with | some bs => numsD ds bs | none => false) = _
                rw [hl]
              rw [er] at q q6
              have dg : DGet G6 p1 (.str z) (some (.ref ax)) := hv ▸ DGet.k (k := .inr z) hp6
              have hxat := dpAll_at hxs
              have l2 : xs.length = bs.length := by rw [hxat.1]; unfold highs; rw [List.length_map]
              refine ⟨_, rfl, _, _, _, _, rfl, rfl, ht6, at0 _ _, _, rfl, p1, _, rfl, dg, _, rfl, iteF ?_⟩
              refine ⟨_, rfl, _, _, rfl, .inr ht6, ?_⟩
              refine ⟨_, rfl, _, rfl, _, _, _, _, rfl, rfl, ht6, at0 _ _, p1, .ref ax, rfl, dg, ax, xs, rfl, .inl (SqL.of hax), _, _, rfl, rfl, rfl, _, rfl, ?_⟩
              by_cases cl : ds.length = bs.length
              · have el : ((V.str z :: vs).length : Int) = 1 + (xs.length : Int) := by simp [l1, l2, cl]; omega
                rw [dec_int', el, decide_eq_true rfl]
                refine iteF ?_
                have lb2 := bs_len hl
                refine ⟨_, rfl, _, _, _, _, rfl, rfl, ht6, at0 _ _, rfl, .inr ⟨_, rfl, ?_⟩⟩
                rw [dec_str]
                obtain ⟨lo, hlo⟩ : ∃ lo : Int, (if decide (z = "rest") = true then 1 else 0) = lo := ⟨_, rfl⟩
                have lows' := lows hl
                rw [hlo] at lows' ⊢
                dsimp only [tNext, tSeq, tAsg, gName, tRet]
                have lv : ((V.str z :: vs).length : Int) = (ds.length : Int) + 1 := by simp [l1]
                refine ⟨_, rfl, _, _, rfl, .inr ht6, 1, _, rfl, ⟨by decide, by decide, by omega, by omega⟩, fun R nR => ?_⟩
                refine lc_it walk_range (fun i H5 => ∃ W : List Int, H5 R = some (.lst (W.map V.int)) ∧ W.length ≤ i ∧ (W = [] ↔ ∀ (j : Nat) (d : PyData) (b : Int × Int), j < i → ds[j]? = some d → bs[j]? = some b → numD d b.1 b.2 = true) ∧ Same G6 H5)
                  ⟨[], upd_same, Nat.le_refl _, ⟨fun _ j d b hj => absurd hj (Nat.not_lt_zero j), fun _ => rfl⟩, Same.new (Same.refl _) nR⟩ (fun _ _ _ _ => trivial) ?_ ?_
                · rintro i x H5 H5' hi ⟨W, hW, lW, hiff, s5⟩ ⟨rfl, rfl⟩
                  have hi2 : i < ds.length := by
                    have : i < (((V.str z :: vs).length : Int) - 1).toNat := hi
                    omega
                  have e0 : (1 : Int) + (i : Nat) = ((i + 1 : Nat) : Int) := by omega
                  have e1 : (1 : Int) + (i : Nat) - 1 = (i : Int) := by omega
                  obtain ⟨d, hd⟩ : ∃ d, ds[i]? = some d := ⟨_, List.getElem?_eq_getElem hi2⟩
                  obtain ⟨b, hb⟩ : ∃ b, bs[i]? = some b := ⟨_, List.getElem?_eq_getElem (by omega)⟩
                  obtain ⟨y, hy⟩ : ∃ y, vs[i]? = some y := ⟨_, List.getElem?_eq_getElem (by omega)⟩
                  obtain ⟨u, hu'⟩ : ∃ u, xs[i]? = some u := ⟨_, List.getElem?_eq_getElem (by omega)⟩
                  have Dx := hat.2 i y d hy hd
                  have pd := a d (List.mem_cons_of_mem _ (List.mem_of_getElem? hd))
                  obtain ⟨nm, tx⟩ := pd.ty Dx
                  have ub := hxat.2 i u (.int b.2) hu' (by unfold highs; rw [List.getElem?_map, hb]; rfl)
                  have eu : u = .int b.2 := by cases ub; rfl
                  subst eu
                  have tx5 := tyS (s06.trans s5) tx
                  have ht5 := Same.tup s5 ht6
                  have dg5 : DGet H5' p1 (.str z) (some (.ref ax)) := hv ▸ DGet.k (k := .inr z) (s5 _ _ hp6)
                  refine ⟨by kernel_rfl, ?_⟩
                  refine ⟨.ref pa, by kernel_rfl, .int (1 + (i : Nat)), by kernel_rfl, _, _, _, y, rfl, rfl, ht5, by rw [e0, at_eqJ (by rw [List.length_cons]; omega)]; exact hy, ?_⟩
                  refine ⟨.int lo, by kernel_rfl, ?_⟩
                  refine ⟨.ref p1, by kernel_rfl, .ref pa, by kernel_rfl, _, _, _, _, rfl, rfl, ht5, at0 _ _, p1, .ref ax, rfl, dg5, ?_⟩
                  refine ⟨.int (1 + (i : Nat)), by kernel_rfl, _, _, rfl, rfl, ?_⟩
                  refine ⟨_, _, _, .int b.2, rfl, rfl, SqL.of (s5 _ _ hax), by rw [e1, at_eqJ (by omega)]; exact hu', ?_⟩
                  refine ⟨_, _, _, nm, rfl, tx5, ?_⟩
                  rw [num_dp lo b.2 Dx, ← lows' b (List.mem_of_getElem? hb)]
                  refine ⟨_, rfl, ?_⟩
                  cases hn : numD d b.1 b.2 with
                  | true =>
                    refine iteF ⟨W, hW, by omega, ⟨fun h j d' b' hj hd' hb' => ?_, fun h => hiff.mpr fun j d' b' hj => h j d' b' (by omega)⟩, s5⟩
                    by_cases c : j = i
                    · subst c
                      rw [hd] at hd'
                      rw [hb] at hb'
                      cases hd'
                      cases hb'
                      exact hn
                    · exact hiff.mp h j d' b' (by omega) hd' hb'
                  | false =>
                    refine iteT ⟨.int (1 + (i : Nat)), by kernel_rfl, _, hW, ?_, W ++ [1 + (i : Int)], ?_, ?_, ⟨fun h => by simp at h, fun h => ?_⟩, Same.new s5 nR⟩
                    · rw [List.length_map]
                      exact Nat.lt_of_le_of_lt (show W.length ≤ 1000 by omega) (by decide)
                    · rw [upd_same, List.map_append]
                      rfl
                    · rw [List.length_append]
                      exact Nat.succ_le_succ lW
                    · rw [h i d b (by omega) hd hb] at hn
                      cases hn
                · rintro H5 ⟨W, hW, lW, hiff, s5⟩
                  refine ⟨by show 0 ≤ sizeLine; decide, fun e1 ne1 => ?_⟩
                  have s7 : Same H5 (upd H5 e1 (.lst [])) := Same.new (Same.refl _) ne1
                  refine ⟨.list (pyInts W), .list (pyInts []), .lst (SqL.of (s7 _ _ hW)) (dp_ints _), .lst (SqL.of upd_same) .nil, shaped_ints _, shaped_ints [], ?_⟩
                  rw [eqv_nil]
                  have q7 := q _ ((s06.trans s5).trans s7)
                  have en : numsD ds bs = W.isEmpty := by
                    cases W with
                    | nil => exact numsD_all cl (fun j d b h1 h2 => hiff.mp rfl j d b (by
                        have := (List.getElem?_eq_some_iff.mp h1).1
                        show j < (((V.str z :: vs).length : Int) - 1).toNat
                        omega) h1 h2)
                    | cons k0 t =>
                      cases hn : numsD ds bs with
                      | false => rfl
                      | true =>
                        have : k0 :: t = [] := hiff.mpr (fun j d b hj h1 h2 => by
                          cases hb : numD d b.1 b.2 with
                          | true => rfl
                          | false => rw [numsD_no h1 h2 hb] at hn; cases hn)
                        cases this
                  rw [en] at q7
                  exact q7
              · rw [numsD_len cl] at q6
                have el : ((V.str z :: vs).length : Int) ≠ 1 + (xs.length : Int) := by simp [l1, l2]; omega
                rw [dec_int', decide_eq_false el]
                exact iteT q6
end
end SB

set_option Elab.async false
set_option linter.all false
set_option maxRecDepth 100000
set_option maxHeartbeats 1000000
namespace SB
open PySem L2 StX
def oN : Option Nat → V
  | none => .non
  | some i => .int (i : Int)
section
variable {P : Program} {w : World} {K : PySem.W.Frag} {mg : Str → Option Value} {base : Heap} {H H' : Hp}
def tupLen : PyData → Nat
  | .tuple ds => ds.length
  | _ => 0
def sp_l_first_row (K : PySem.W.Frag) : Sp := fun vs H Q _ => ∃ (v : V) (d : PyData), vs = [v] ∧ Dp K H v d ∧ Pl 61 d ∧ tupLen d ≤ 2000 ∧ ∀ H', Same H H' → Q (oN (firstRow d)) H'
theorem ok_l_first_row (T : T w K mg) : FnR P w K mg base CX0 3 (He.ga K "_law_first_row") (sp_l_first_row K) := by
  have F_l_is_row : FnR P w K mg base CX0 2 _ _ := ok_l_is_row T
  obtain ⟨fd, F⟩ := T.f_l_first_row
  refine F.r sc_l_first_row (fun _ _ _ _ _ _ us hl => match us, hl with | [_], _ => rfl) (fun vs H Q E h => ?_) (fun cdv A outer s H vs Q E hr h => ?_)
  · obtain ⟨_, _, rfl, _⟩ := h
    rfl
  · obtain ⟨v, d, rfl, D, pl, tl, q⟩ := h
    have hu := hr.units
    have q0 := q H (Same.refl H)
    refine ⟨_, (pss_cons (ps_if (PW.pt (pw_or (pt_not (pt_val (pe_isi (n := "tuple") rfl T.u_isinstance rfl T.u_tuple (pv 0)))) (pw_or1 (pt_cmpR (op_eqD hu) (pv 0) (pe_tup pa_nil) (nomark _)))))
  (pss_one (ps_ret pe_int))
  pss_nil)
  (pss_cons (ps_setLc (i := 1) (own := [("_law_k", 2)]) (g := gName 2) (tt := tOr (tTest (tOp (rI0 fun i j => .bl (decide (j < i))) (tVar 2) (tC (.int 39)))) (tNot (tB (tCallR (sp_l_is_row K) (tCons (tOp (rIxT K) (tVar 0) (tVar 2)) (tCons (tCB (fun xs H Q => ∃ p ys, xs = [.ref p] ∧ (SqL K H p ys ∨ SqT K H p ys) ∧ Q (.int ys.length) H) (tCons (tVar 0) tNil)) tNil)))))) (te := tVar 2) rfl sc_l_first_row.nd rfl rfl (sw_true rfl rfl rfl (by decide +kernel)) (pi_range1 rfl T.u_range (pa_cons (pe_callB call_len_seq rfl T.u_len PySem.boot_len (pa_cons (pv 0) pa_nil)) pa_nil)) (blkOk_by (N := ["_law_program_here", "_law_some", "_law_k"]) (sc := defScope s_l_first_row) (by decide +kernel)) (fun _ _ _ _ _ => pg_name (i := 2) sc_l_first_row.nd rfl (Or.inl rfl)) (fun _ _ _ _ _ => pts_one (PW.pt (pw_or (pt_cmpR op_gt (pv 2) pe_int (nomark _)) (pw_or1 (pt_not (pt_val (pe_callR F_l_is_row (hr.mono (by decide)) rfl T.g_l_is_row T.k_l_is_row (pa_cons (pe_ix ix_tup (pv 0) (pv 2) (fun _ _ => rfl)) (pa_cons (pe_callB call_len_seq rfl T.u_len PySem.boot_len (pa_cons (pv 0) pa_nil)) pa_nil))))))))) (fun _ _ _ _ _ => pv 2))
  (pss_one (ps_ret (pe_ifExp (pt_cmpR (op_neD hu) (pv 1) (pe_lst pa_nil) (nomark _)) (pe_ix ix_list (pv 1) pe_int (fun _ _ => rfl)) pe_non))))), ?_⟩
    have sh := pl.shaped (by decide)
    cases pl with
    | non n => cases D; exact ⟨_, rfl, rfl, _, .non, _, rfl, iteT (iteT q0)⟩
    | bl n b => cases D; exact ⟨_, rfl, rfl, _, .bl _, _, rfl, iteT (iteT q0)⟩
    | int n i => cases D; exact ⟨_, rfl, rfl, _, .int _, _, rfl, iteT (iteT q0)⟩
    | str n h => cases D; exact ⟨_, rfl, rfl, _, .str _, _, rfl, iteT (iteT q0)⟩
    | tup m a =>
      cases D with
      | tup ht hds =>
        rename_i ds pa vs
        refine ⟨_, rfl, rfl, _, .tup ht, _, rfl, iteF ?_⟩
        refine ⟨_, rfl, by show 0 ≤ sizeLine; decide, fun e0 ne0 => ?_⟩
        generalize hG : upd H e0 _ = G1
        have s1 : Same H G1 := by rw [← hG]; exact Same.new (Same.refl _) ne0
        have he0 : G1 e0 = some (.tup []) := by rw [← hG]; exact upd_same
        clear hG
        have ht1 : SqT K G1 pa vs := Same.tup s1 ht
        have hds1 := dpSs s1 hds
        have hat := dpAll_at hds1
        have l1 : vs.length = ds.length := hat.1
        have tl : ds.length ≤ 2000 := tl
        refine ⟨_, .tuple [], .tup ht1 hds1, .tup (SqT.of he0) .nil, sh, rfl, _, rfl, ?_⟩
        by_cases ne : ds = []
        · subst ne
          exact iteT (q G1 s1)
        have ee : PyData.eqv (.tuple ds) (.tuple []) = false := by
          cases ds with
          | nil => exact absurd rfl ne
          | cons _ _ => rfl
        rw [ee]
        refine iteF ?_
        have fr : firstRow (.tuple ds) = (List.range ds.length).find? (badRow ds) := by
          cases ds with
          | nil => exact absurd rfl ne
          | cons _ _ => rfl
        rw [fr] at q
        refine ⟨_, rfl, _, _, rfl, .inr ht1, ?_⟩
        rw [l1]
        refine ⟨(ds.length : Int), rfl, by omega, by omega, fun R nR => ?_⟩
        refine lc_it walk_range (fun i H5 => H5 R = some (.lst ((((List.range i).filter (badRow ds)).map fun (k : Nat) => (k : Int)).map V.int)) ∧ Same G1 H5)
          ⟨upd_same, Same.new (Same.refl _) nR⟩ (fun _ _ _ _ => trivial) ?_ ?_
        · rintro i x H5 H5' hi ⟨hW, s5⟩ ⟨rfl, rfl⟩
          have hi2 : i < ds.length := by
            have : i < ((ds.length : Int)).toNat := hi
            omega
          have e0 : (0 : Int) + (i : Nat) = (i : Int) := by omega
          obtain ⟨d, hd⟩ : ∃ d, ds[i]? = some d := ⟨_, List.getElem?_eq_getElem hi2⟩
          obtain ⟨y, hy⟩ : ∃ y, vs[i]? = some y := ⟨_, List.getElem?_eq_getElem (by omega)⟩
          have Dx := hat.2 i y d hy hd
          have pd := a d (List.mem_of_getElem? hd)
          have eb : badRow ds i = (decide (39 < i) || !rowOkD (ds.length : Int) d) := by
            unfold badRow
            rw [List.getD, hd]
            rfl
          have ef : (List.range (i + 1)).filter (badRow ds) = if badRow ds i = true then (List.range i).filter (badRow ds) ++ [i] else (List.range i).filter (badRow ds) := by
            rw [List.range_succ, List.filter_append]
            cases h : badRow ds i with
            | true => rw [if_pos rfl, List.filter_cons_of_pos h, List.filter_nil]
            | false => rw [if_neg (by decide), List.filter_cons_of_neg (by rw [h]; decide), List.filter_nil, List.append_nil]
          have lf : ((List.range i).filter (badRow ds)).length ≤ i := Nat.le_trans (List.length_filter_le _ _) (by rw [List.length_range]; exact Nat.le_refl _)
          have fin : ∀ (b : Bool) (H6 : Hp), badRow ds i = b → Same H5' H6 → H6 R = some (.lst ((((List.range i).filter (badRow ds)).map fun (k : Nat) => (k : Int)).map V.int)) → if b = true then tVar 2 ((wipe [some (.ref pa), none, none] [2]).set 2 (some (.int (0 + (i : Int))))) H6 fun y H4 => ∃ acc, H4 R = some (.lst acc) ∧ acc.length < sizeLine ∧ (upd H4 R (.lst (acc ++ [y])) R = some (.lst ((((List.range (i + 1)).filter (badRow ds)).map fun (k : Nat) => (k : Int)).map V.int)) ∧ Same G1 (upd H4 R (.lst (acc ++ [y])))) else H6 R = some (.lst ((((List.range (i + 1)).filter (badRow ds)).map fun (k : Nat) => (k : Int)).map V.int)) ∧ Same G1 H6 := fun b H6 hb s6 hW6 => by
            rw [ef, hb]
            cases b with
            | false =>
              refine iteF ⟨?_, s5.trans s6⟩
              rw [if_neg (by decide)]
              exact hW6
            | true =>
              refine iteT ⟨.int (0 + (i : Int)), by kernel_rfl, _, hW6, ?_, ?_, Same.new (s5.trans s6) nR⟩
              · rw [List.length_map, List.length_map]
                exact Nat.lt_of_le_of_lt (show _ ≤ 2000 by omega) (by decide)
              · rw [upd_same, if_pos rfl, List.map_append, List.map_append, e0]
                rfl
          refine ⟨by kernel_rfl, ?_⟩
          refine ⟨.int (0 + (i : Nat)), by kernel_rfl, _, _, rfl, rfl, _, rfl, ?_⟩
          by_cases c39 : (39 : Int) < 0 + (i : Nat)
          · rw [decide_eq_true c39]
            refine iteT ?_
            exact fin true _ (by rw [eb, decide_eq_true (by omega)]; rfl) (Same.refl _) hW
          · rw [decide_eq_false c39]
            refine iteF ?_
            refine ⟨.ref pa, by kernel_rfl, .int (0 + (i : Nat)), by kernel_rfl, _, _, _, y, rfl, rfl, Same.tup s5 ht1, by rw [e0, at_eqJ (by omega)]; exact hy, ?_⟩
            refine ⟨.ref pa, by kernel_rfl, _, _, rfl, .inr (Same.tup s5 ht1), ?_⟩
            refine ⟨y, d, _, rfl, dpS s5 Dx, pd, fun H6 s6 => ?_⟩
            rw [l1]
            refine ⟨_, rfl, ?_⟩
            refine fin _ H6 ?_ s6 (s6 _ _ hW)
            rw [eb, decide_eq_false (by omega), Bool.false_or]
        · rintro H5 ⟨hW, s5⟩
          rw [Int.toNat_natCast] at hW
          dsimp only [tNext, tSeq, tAsg, gName, tRet, List.set]
          have hh : (List.range ds.length).find? (badRow ds) = ((List.range ds.length).filter (badRow ds)).head? := by rw [List.head?_filter]
          rw [hh] at q
          generalize (List.range ds.length).filter (badRow ds) = W at hW q
          refine ⟨_, rfl, by show 0 ≤ sizeLine; decide, fun e1 ne1 => ?_⟩
          have s7 : Same H5 (upd H5 e1 (.lst [])) := Same.new (Same.refl _) ne1
          refine ⟨.list (pyInts (W.map fun (k : Nat) => (k : Int))), .list (pyInts []), .lst (SqL.of (s7 _ _ hW)) (dp_ints _), .lst (SqL.of upd_same) .nil, shaped_ints _, shaped_ints [], _, rfl, ?_⟩
          rw [eqv_nil]
          have q7 := q _ ((s1.trans s5).trans s7)
          cases W with
          | nil => exact iteF q7
          | cons k0 t => exact iteT ⟨_, rfl, _, _, _, .int (k0 : Int), rfl, rfl, SqL.of (s7 _ _ hW), at0 _ _, q7⟩
end
end SB

set_option Elab.async false
set_option linter.all false
set_option maxRecDepth 100000
set_option maxHeartbeats 2000000
namespace SB
open PySem L2
section
variable {P : Program} {w : World} {K : PySem.W.Frag} {mg : Str → Option Value} {base : Heap}
theorem DiceAt.ned {H : Hp} {d sl : Addr} {f p : Int} {cs : List Int} (D : DiceAt H d sl f p cs) {y : Addr} (hy : H y = none) : y ∉ [d, sl] := by
  have a1 : y ≠ d := ne_of_none' D.ob hy
  have a2 : y ≠ sl := ne_of_none' D.ls hy
  simp [a1, a2]
theorem pick2 {H : Hp} {d sl : Addr} {f p : Int} {cs : List Int} {x y : Int} {σ : L2.St} {i : Nat} {Q : VK} (hσ : σ[i]? = some (some (.ref d))) (D : DiceAt H d sl f p cs) (c63 : cs.length ≤ 63) (x0 : 0 < x) (x1 : x < 1073741824) (y0 : 0 < y) (y1 : y < 1073741824)
    (q : ∀ H' f' p' cs' v, DiceAt H' d sl f' p' cs' → cs'.length = cs.length → Kept [d, sl] H H' → 0 ≤ v → (v < x ∨ v < y) → Q (.int v) H') :
    tCallR (sp_l_off K) (tCons (tVar i) (tCons (tOp (rIxL K) (tLst (tCons (tC (.int x)) (tCons (tC (.int y)) tNil))) (tCallR (sp_l_off K) (tCons (tVar i) (tCons (tC (.int 2)) tNil)))) tNil)) σ H Q := by
  refine ⟨_, hσ, by show 2 ≤ sizeLine; decide, fun b hb => ?_⟩
  have s1 : Same H (upd H b (.lst [.int x, .int y])) := Same.new (Same.refl H) hb
  refine ⟨_, hσ, d, sl, f, p, cs, 2, rfl, D.same s1, c63, by decide, by decide, fun H2 f2 p2 cs2 v D2 c2 k2 v0 v1 => ?_⟩
  have kb : H2 b = some (.lst [.int x, .int y]) := k2 _ _ upd_same (D.ned hb)
  obtain ⟨m, hm, m0, m1, mx⟩ : ∃ m : Int, atI ([.int x, .int y] : List V) v = some (.int m) ∧ 0 < m ∧ m < 1073741824 ∧ (m = x ∨ m = y) := by
    have : v = 0 ∨ v = 1 := by omega
    rcases this with rfl | rfl
    · exact ⟨x, rfl, x0, x1, .inl rfl⟩
    · exact ⟨y, rfl, y0, y1, .inr rfl⟩
  refine ⟨_, _, _, _, rfl, rfl, SqL.of kb, hm, ?_⟩
  refine ⟨d, sl, f2, p2, cs2, m, rfl, D2, by omega, m0, m1, fun H3 f3 p3 cs3 n D3 c3 k3 n0 n1 => ?_⟩
  exact q H3 f3 p3 cs3 n D3 (by omega) (((Kept.same s1).trans k2).trans k3) n0 (by rcases mx with e | e <;> rw [← e] <;> first | exact .inl n1 | exact .inr n1)
def sp_l_work (K : PySem.W.Frag) : Sp := fun vs H Q _ => ∃ (d sl : Addr) (f p : Int) (cs : List Int) (many : Int), vs = [.ref d, .int many] ∧ DiceAt H d sl f p cs ∧ cs.length ≤ 63 ∧ 1 ≤ many ∧ many ≤ 6 ∧
  ∀ H' f' p' cs' t k, DiceAt H' d sl f' p' cs' → cs'.length = cs.length → Kept [d, sl] H H' → H t = none → H' t = some (.tup k.vs) → WOk many.toNat k → Q (.ref t) H'
def sp_l_works (K : PySem.W.Frag) : Sp := fun vs H Q _ => ∃ (d sl : Addr) (f p : Int) (cs : List Int) (most : Int), vs = [.ref d, .int most] ∧ DiceAt H d sl f p cs ∧ cs.length ≤ 63 ∧ 0 ≤ most ∧ most ≤ 6 ∧
  ∀ (H' : Hp) (f' p' : Int) (cs' : List Int) (wl : Addr) (ts : List Addr) (ks : List Wk), DiceAt H' d sl f' p' cs' → cs'.length = cs.length → Kept [d, sl] H H' → H wl = none → TupsAt H' wl ts (ks.map Wk.vs) → (∀ t ∈ ts, H t = none) → ks.length ≤ most.toNat → (∀ k ∈ ks, WOk ks.length k) → Q (.ref wl) H'
end
end SB

set_option Elab.async false
set_option linter.all false
set_option maxRecDepth 100000
set_option maxHeartbeats 2000000
namespace SB
open PySem L2
def av (a : Int × Int) : List V := [.int a.1, .int a.2]
theorem sort_next : ∀ {ns : List Int}, ns.Pairwise (· ≤ ·) → ∀ (i : Nat) (x y : Int), ns[i]? = some x → ns[i + 1]? = some y → x ≤ y
  | [], _, i, x, y, h, _ => by simp at h
  | a :: r, hp, 0, x, y, h1, h2 => by
    have e : a = x := by simpa using h1
    have h2' : r[0]? = some y := by simpa using h2
    rw [← e]
    exact (List.pairwise_cons.mp hp).1 y (List.mem_of_getElem? h2')
  | a :: r, hp, i + 1, x, y, h1, h2 => sort_next (List.pairwise_cons.mp hp).2 i x y (by simpa using h1) (by simpa using h2)
section
variable {P : Program} {w : World} {K : PySem.W.Frag} {mg : Str → Option Value} {base : Heap}
def sp_l_asked (K : PySem.W.Frag) : Sp := fun vs H Q _ => ∃ (d sl : Addr) (f p : Int) (cs : List Int) (many : Int), vs = [.ref d, .int many] ∧ DiceAt H d sl f p cs ∧ cs.length ≤ 63 ∧ 0 ≤ many ∧ many ≤ 6 ∧
  ∀ (H' : Hp) (f' p' : Int) (cs' : List Int) (al : Addr) (qs : List Addr) (as : List (Int × Int)), DiceAt H' d sl f' p' cs' → cs'.length = cs.length → Kept [d, sl] H H' → H al = none → TupsAt H' al qs (as.map av) → AOk many.toNat as → Q (.ref al) H'
end
end SB

set_option Elab.async false
set_option linter.all false
set_option maxRecDepth 100000
namespace L2
open PySem PySem.Spec PyProof.Rows
section
variable {prog : Program} {w : World} {A : Around} {E : Value → Shared → Prop}
theorem call_upd_list {s : Shared} {d l : Addr} {ol : Obj} {items : Array Value} {n : Nat} {acc prs : List (Key × Value)} {Q : Value → Shared → Prop} (hh : A.handled = none) (hm : s.heap.DictOf (mixKind prog w) d acc) (hl : s.heap.get? l = some ol) (hc : ol.cls = .type "list") (hd : ol.dict = none)
    (hdat : ol.data = .seq items n) (hsz : items.size = prs.length) (hln : acc.length + prs.length ≤ sizeLine) (hdl : d ≠ l)
    (ht : ∀ (j : Nat) (q : Key × Value), prs[j]? = some q → ∃ (b : Addr) (u : Value), items[j]? = some (.ref b) ∧ b ≠ d ∧ IsTup s.heap b #[u, q.2] ∧ keyIs q.1 u = true)
    (h : ∀ h' tk, h'.DictOf (mixKind prog w) d (merged acc prs) → (∀ b o, b ≠ d → s.heap.get? b = some o → h'.get? b = some o) → Q .none { s with heap := h', toks := tk }) :
    wpAny (model prog w) A (call (.builtin "dict.update") [.ref d, .ref l]) Q E s := by
  refine call_meetsIn F.slot_dict_update hm.typeIs F.entry_dict_update (F.args_dict_update_2 _ _)
    (S := fun A' R s' => A' = A ∧ s' = s ∧ ∀ h' tk, h'.DictOf (mixKind prog w) d (merged acc prs) → (∀ b o, b ≠ d → s.heap.get? b = some o → h'.get? b = some o) → R (.ok (.ret .none)) { s with heap := h', toks := tk })
    (fun A' R s' hS => ?_) ⟨rfl, rfl, h⟩
  obtain ⟨rfl, rfl, hq⟩ := hS
  refine meets_dict_update_arg hm.typeIs ?_
  unfold Builtin.Dict.updateFrom
  refine wpAny_bind (wpAny_typeOf (T := "list") ⟨ol, hl, hc⟩ ?_)
  rw [if_pos (by first | decide | rfl | simp)]
  refine wpAny_bind (miss_list hl hc hdat hd hh fun h1 tk1 hk1 => ?_)
  rw [if_pos (show (none : Option Value).isNone = true from rfl)]
  refine wpAny_bind (wpAny_rule ?_)
  have hl1 : h1.IsList l items := ⟨ol, hk1 _ _ hl, hc, n, hdat⟩
  have hlt : l < h1.objs.size := Heap.lt_size (hk1 _ _ hl)
  have hdt : d < h1.objs.size := by
    obtain ⟨q, _, _, hq', _⟩ := hm
    exact Heap.lt_size (hk1 _ _ hq')
  refine wpAny_bind (wpAny_pyIter_list hl1 ?_)
  have k2 : ∀ b o, h1.get? b = some o → (h1.push { cls := .type "list_iterator", data := .fields #[.ref l, .int 0 0] }).get? b = some o := fun b o e => Heap.get?_push_of_some _ e
  have key := upd_loop (prog := prog) (w := w) (A := A') (R := R) (S := d) (I := h1.objs.size) (l := l) (items := items) (res := Value.none) hh
    (Nat.ne_of_lt hlt) (Nat.ne_of_lt hdt) hdl prs 0 acc 0 0
    { s' with heap := h1.push { cls := .type "list_iterator", data := .fields #[.ref l, .int 0 0] }, toks := tk1 } (by rw [hsz, Nat.zero_add]) hln
    (fun j q e => by
      obtain ⟨b, u, e1, e0, e2, e3⟩ := ht j q e
      have e2' : IsTup h1 b #[u, q.2] := e2.keeps fun c o z => hk1 _ _ z
      exact ⟨b, u, by rw [Nat.zero_add]; exact e1, e0, Nat.ne_of_lt e2'.lt, e2'.keeps fun c o z => k2 _ _ z, e3⟩)
    ⟨_, Heap.get?_push_size _ rfl, rfl, rfl⟩ (hl1.at fun o e => k2 _ _ e) ((hm.at fun o e => hk1 _ _ e).at fun o e => k2 _ _ e)
    (fun h' tk hd' k => hq h' tk hd' fun b o hb e => k b o hb (Nat.ne_of_lt (Heap.lt_size (hk1 _ _ e))) (k2 _ _ (hk1 _ _ e)))
  first
    | exact wpAny_pure ⟨plainId_quiet ud_plain _, key⟩
    | exact wpAny_bind (wpAny_pure (wpAny_pure ⟨plainId_quiet ud_plain _, key⟩))
end
section
variable {X : Cx}
def rUpdP (K : PySem.W.Frag) : V → List V → Hp → VK → Prop := fun x vs H Q => ∃ (a l : Addr) (ps : List Addr) (kvs kvs' : List (Key × V)), x = .ref a ∧ vs = [.ref l] ∧ H a = some (.dK kvs) ∧ H l = some (.lst (ps.map V.ref)) ∧ Paired (fun p kv => H p = some (.tup [kV kv.1, kv.2])) ps kvs' ∧ kvs.length + kvs'.length ≤ sizeLine ∧
  Q .non (upd H a (.dK (mergeK kvs kvs')))
theorem paired_sq {H : Hp} : ∀ {ps : List Addr} {kvs : List (Key × V)}, Paired (fun p kv => H p = some (.tup [kV kv.1, kv.2])) ps kvs → Paired (fun p kv => SqT X.K H p [kV kv.1, kv.2]) ps kvs
  | _, _, .nil => .nil
  | _, _, .cons h t => .cons (SqT.of h) (paired_sq t)
theorem paired_ne {H : Hp} {a : Addr} {kvs0 : List (Key × V)} (ha : H a = some (.dK kvs0)) : ∀ {ps : List Addr} {kvs : List (Key × V)}, Paired (fun p kv => H p = some (.tup [kV kv.1, kv.2])) ps kvs → ∀ (j : Nat) (b : Addr), ps[j]? = some b → b ≠ a
  | _, _, .nil, j, b, e => by simp at e
  | _, _, .cons h t, 0, b, e => by
    cases e
    exact ne_of h ha (by intro z; cases z)
  | _, _, .cons h t, j + 1, b, e => paired_ne ha t j b (by simpa using e)
theorem mt_updP (hcalm : X.calm = true) : MtM X "dict.update" (rUpdP X.K) := by
  intro pins s σ H x vs v us Q I rx rv h
  obtain ⟨a, l, ps, kvs, kvs', rfl, rfl, hH, hq, hp, hz, q⟩ := h
  cases rx
  obtain ⟨u, rfl, ru⟩ := rv.one
  cases ru
  obtain ⟨its, rv', pl, hzl⟩ := I.list (SqL.of hq)
  have ei := refs_at rv'
  subst ei
  obtain ⟨prs, rel, hl, hpr⟩ := pairs_of I (paired_sq (X := X) hp)
  obtain ⟨o, n, ho, hc, hd, hdat⟩ := pl
  obtain ⟨z, hsm, vs0, r0, dd⟩ := dk_of I.hok hH
  have hal : a ≠ l := ne_of hH hq (by intro z; cases z)
  have el : kvs'.length = prs.length := rel.length
  refine call_upd_list (prs := prs) (I.ok.hd hcalm) dd ho hc hd hdat (by simp [hl]) (by rw [← r0.length, ← el]; exact hz) hal (fun j q' e => ?_) fun h' tk hd' k => ?_
  · obtain ⟨b, u, e1, e2, e3⟩ := hpr j q' e
    exact ⟨b, u, by simp [e1], paired_ne hH hp j b e1, e2, e3⟩
  · have hlen : (mergeK kvs kvs').length ≤ sizeLine := Nat.le_trans (length_mergeK kvs' kvs) (by omega)
    have he : ∃ q, h'.get? a = some q := let ⟨q, _, _, hq, _⟩ := hd'; ⟨q, hq⟩
    exact ⟨.non, _, I.write (t' := tk) (x := a) (e := a) (by rw [hH]; exact True.intro) (.inl rfl) k he (dk_new hlen hsm (KV.merge rel r0) hd'), rfl, q⟩
end
end L2

set_option Elab.async false
set_option linter.all false
set_option maxRecDepth 100000
set_option maxHeartbeats 4000000
namespace SB
open PySem L2
inductive Kd where
  | set | add | less | get | getx | put | putx | pair | lay | ask | done | mark | clear | rest | iff | go | fin
abbrev Kd.str : Kd → Str
  | .set => "set" | .add => "add" | .less => "less" | .get => "get" | .getx => "getx" | .put => "put" | .putx => "putx" | .pair => "pair" | .lay => "lay" | .ask => "ask" | .done => "done" | .mark => "mark"
  | .clear => "clear" | .rest => "rest" | .iff => "if" | .go => "go" | .fin => "end"
abbrev Kd.v (k : Kd) : V := .str k.str
abbrev L14 : List Kd := [.set, .add, .less, .get, .getx, .put, .putx, .pair, .pair, .lay, .ask, .ask, .done, .mark]
abbrev L8 : List Kd := [.clear, .rest, .get, .put, .set, .iff, .go, .iff]
def Lk (st : Bool) : List Kd := L14 ++ L8.take (if st = true then 5 else 8)
theorem Lk_len (st : Bool) : (Lk st).length = if st = true then 19 else 22 := by cases st <;> rfl
theorem Lk_st : ∀ k ∈ Lk true, k ≠ .go ∧ k ≠ .iff := fun k hk => by
  have h : k ∈ ([.set, .add, .less, .get, .getx, .put, .putx, .pair, .pair, .lay, .ask, .ask, .done, .mark, .clear, .rest, .get, .put, .set] : List Kd) := hk
  simp only [List.mem_cons, List.not_mem_nil, or_false] at h
  rcases h with h | h | h | h | h | h | h | h | h | h | h | h | h | h | h | h | h | h | h <;> rw [h] <;> exact ⟨Kd.noConfusion, Kd.noConfusion⟩
theorem ecut (st : Bool) : cutV (L8.map Kd.v) none (some (8 - 3 * (if st = true then 1 else 0))) = (L8.take (if st = true then 5 else 8)).map Kd.v := by
  have e : (8 - 3 * (if st = true then 1 else 0) : Int) = ((if st = true then 5 else 8 : Nat) : Int) := by cases st <;> rfl
  rw [e, cut_take, List.map_take]
section
variable {P : Program} {w : World} {K : PySem.W.Frag} {mg : Str → Option Value} {base : Heap}
def StD (H : Hp) (d sl : Addr) (n : Nat) (Hx : Hp) : Prop := ∃ f p cs, DiceAt Hx d sl f p cs ∧ cs.length = n ∧ Kept [d, sl] H Hx
theorem StD.new {H Hx : Hp} {d sl t : Addr} {n : Nat} {o : HO} (h : StD H d sl n Hx) (ht : Hx t = none) : StD H d sl n (upd Hx t o) := by
  obtain ⟨f, p, cs, D, c, k⟩ := h
  have s : Same Hx (upd Hx t o) := Same.new (Same.refl _) ht
  exact ⟨f, p, cs, D.same s, c, k.trans (Kept.same s)⟩
theorem StD.free {H Hx : Hp} {d sl t : Addr} {n : Nat} (h : StD H d sl n Hx) (ht : Hx t = none) : H t = none := by
  obtain ⟨f, p, cs, D, c, k⟩ := h
  exact k.free ht (D.ned ht)
theorem StD.off {H Hx : Hp} {d sl : Addr} {n : Nat} {σ : L2.St} {i : Nat} {ta : TE} {m : Int} {Q : VK} (h : StD H d sl n Hx) (n63 : n ≤ 63) (hσ : σ[i]? = some (some (.ref d))) (ha : ∀ Q2 : VK, Q2 (.int m) Hx → ta σ Hx Q2) (m0 : 0 < m) (m1 : m < 1073741824)
    (q : ∀ Hy v, StD H d sl n Hy → Kept [d, sl] Hx Hy → 0 ≤ v → v < m → Q (.int v) Hy) : tCallR (sp_l_off K) (tCons (tVar i) (tCons ta tNil)) σ Hx Q := by
  obtain ⟨f, p, cs, D, c, k⟩ := h
  refine ⟨_, hσ, ha _ ?_⟩
  exact ⟨d, sl, f, p, cs, m, rfl, D, by omega, m0, m1, fun H2 f2 p2 cs2 v D2 c2 k2 v0 v1 => q H2 v ⟨f2, p2, cs2, D2, by omega, k.trans k2⟩ k2 v0 v1⟩
theorem t_in {σ : L2.St} {H : Hp} {z : Str} {ys : List V} {ta : TA} {Q : Bool → Hp → Prop} (b : Bool) (hσ : σ[4]? = some (some (.str z))) (ha : ∀ Q2 : List V → Hp → Prop, ta σ H Q2 = Q2 ys H) (hl : ys.length ≤ sizeLine) (hf : ys.all flatV = true) (hb : inV (.str z) ys = b)
    (q : ∀ t, H t = none → Q b (upd H t (.tup ys))) : tTest (tOp (rIn K false) (tVar 4) (tTup ta)) σ H Q := by
  refine ⟨_, hσ, ?_⟩
  show ta σ H _
  rw [ha]
  refine ⟨hl, fun t ht => ⟨t, ys, rfl, .inr (SqT.of upd_same), rfl, hf, _, rfl, ?_⟩⟩
  show Q (inV (.str z) ys) _
  rw [hb]
  exact q t ht
theorem StD.tk {H Hx Hy : Hp} {d sl : Addr} {n : Nat} (h : StD H d sl n Hx) (k : Kept [d, sl] Hx Hy) : Tk Hx Hy := by
  obtain ⟨f, p, cs, D, c, _⟩ := h
  refine Tk.of k (fun b hb => ?_)
  have e : b = d ∨ b = sl := by simpa using hb
  rcases e with rfl | rfl
  · exact ⟨_, D.ob, rfl⟩
  · exact ⟨_, D.ls, rfl⟩
theorem StD.nin {H Hx : Hp} {d sl : Addr} {n : Nat} (h : StD H d sl n Hx) {y : Addr} (hy : Hx y = none) : y ∉ [d, sl] := by
  obtain ⟨f, p, cs, D, c, _⟩ := h
  exact D.ned hy
theorem StD.pick {H Hx : Hp} {d sl : Addr} {n : Nat} {σ : L2.St} {i : Nat} {x y : Int} {Q : VK} (h : StD H d sl n Hx) (n63 : n ≤ 63) (hσ : σ[i]? = some (some (.ref d))) (x0 : 0 < x) (x1 : x < 1073741824) (y0 : 0 < y) (y1 : y < 1073741824)
    (q : ∀ Hy v, StD H d sl n Hy → Kept [d, sl] Hx Hy → 0 ≤ v → (v < x ∨ v < y) → Q (.int v) Hy) :
    tCallR (sp_l_off K) (tCons (tVar i) (tCons (tOp (rIxL K) (tLst (tCons (tC (.int x)) (tCons (tC (.int y)) tNil))) (tCallR (sp_l_off K) (tCons (tVar i) (tCons (tC (.int 2)) tNil)))) tNil)) σ Hx Q := by
  obtain ⟨f, p, cs, D, c, k⟩ := h
  exact pick2 hσ D (by omega) x0 x1 y0 y1 (fun H2 f2 p2 cs2 v D2 c2 k2 v0 v1 => q H2 v ⟨f2, p2, cs2, D2, by omega, k.trans k2⟩ k2 v0 v1)
theorem Tk.put1 {Hx Hy : Hp} {p : Addr} {o : HO} (k : Kept [p] Hx Hy) (h : Hx p = some o) (nt : notTup o = true) : Tk Hx Hy := Tk.of k (fun b hb => by
  have e : b = p := by simpa using hb
  rw [e]
  exact ⟨_, h, nt⟩)
theorem StD.putP {H Hx Hy : Hp} {d sl p : Addr} {n : Nat} (h : StD H d sl n Hx) (k : Kept [p] Hx Hy) (np : p ∉ [d, sl]) (hp : H p = none) : StD H d sl n Hy := by
  obtain ⟨f, q, cs, D, c, k0⟩ := h
  have pd : p ≠ d := fun z => np (by simp [z])
  have ps : p ≠ sl := fun z => np (by simp [z])
  refine ⟨f, q, cs, ⟨k _ _ D.ob (by simpa using Ne.symm pd), k _ _ D.ls (by simpa using Ne.symm ps), D.f0, D.f1, D.p0, D.ne⟩, c, fun b o e hb => k _ _ (k0 b o e hb) ?_⟩
  simpa using ne_of_none e hp
def sp_l_row (K : PySem.W.Frag) : Sp := fun vs H Q _ => ∃ (d sl : Addr) (f p : Int) (cs : List Int) (many : Int) (st : Bool), vs = [.ref d, .int many, .bl st] ∧ DiceAt H d sl f p cs ∧ cs.length ≤ 63 ∧ 1 ≤ many ∧ many ≤ 40 ∧
  ∀ (H' : Hp) (f' p' : Int) (cs' : List Int) (t : Addr) (r : Row), DiceAt H' d sl f' p' cs' → cs'.length = cs.length → Kept [d, sl] H H' → H t = none → H' t = some (.tup r.vs) → r.ok many.toNat → (st = true → (∀ x, r ≠ .go x) ∧ ∀ x y, r ≠ .iff x y) → Q (.ref t) H'
theorem ok_l_row (T : T w K mg) : FnR P w K mg base CX0 2 (He.ga K "_law_row") (sp_l_row K) := by
  have F_l_off : FnR P w K mg base CX0 1 _ _ := ok_l_off T
  obtain ⟨fd, F⟩ := T.f_l_row
  refine F.r sc_l_row (fun _ _ _ _ _ _ us hl => match us, hl with | [_, _, _], _ => rfl) (fun vs H Q E h => ?_) (fun cdv A outer s H vs Q E hr h => ?_)
  · obtain ⟨_, _, _, _, _, _, _, rfl, _⟩ := h
    rfl
  · obtain ⟨d, sl, f, p, cs, many, st, rfl, D, c63, m1, m40, q⟩ := h
    have hu := hr.units
    have hu1 : (A.deeper (PyProof.Rows.envOfC "_law_row" (defScope s_l_row) s.heap.objs.size (He.ga K "_law_row") cdv)).units + 1 < cLine := by omega
    refine ⟨_, (pss_cons (ps_set (i := 3) sc_l_row.nd rfl (Or.inl rfl) (pe_lst (pa_cons pe_str (pa_cons pe_str (pa_cons pe_str (pa_cons pe_str (pa_cons pe_str (pa_cons pe_str (pa_cons pe_str (pa_cons pe_str (pa_cons pe_str (pa_cons pe_str (pa_cons pe_str (pa_cons pe_str (pa_cons pe_str (pa_cons pe_str pa_nil))))))))))))))))
      (pss_cons (ps_set (i := 3) sc_l_row.nd rfl (Or.inl rfl) (pe_op op_cat (pv 3) (pe_slice sl_list (pe_lst (pa_cons pe_str (pa_cons pe_str (pa_cons pe_str (pa_cons pe_str (pa_cons pe_str (pa_cons pe_str (pa_cons pe_str (pa_cons pe_str pa_nil))))))))) po_none (po_some (pe_op op_sub pe_int (pe_op op_mul pe_int (pe_callTy call_int1 rfl T.u_int (by decide +kernel) (pa_cons (pv 2) pa_nil))))))))
      (pss_cons (ps_set (i := 4) sc_l_row.nd rfl (Or.inl rfl) (pe_ifExp (pt_cmpR op_gt (pe_callR F_l_off (hr.mono (by decide)) rfl T.g_l_off T.k_l_off (pa_cons (pv 0) (pa_cons pe_int pa_nil))) pe_int (nomark _)) (pe_ix ix_list (pv 3) (pe_callR F_l_off (hr.mono (by decide)) rfl T.g_l_off T.k_l_off (pa_cons (pv 0) (pa_cons (pe_callB call_len_seq rfl T.u_len PySem.boot_len (pa_cons (pv 3) pa_nil)) pa_nil))) (fun _ _ => rfl)) pe_str))
      (pss_cons (ps_par rfl sc_l_row.nd (i := 5) (j := 6) rfl rfl (by decide) rfl rfl (pa_cons (pe_callR F_l_off (hr.mono (by decide)) rfl T.g_l_off T.k_l_off (pa_cons (pv 0) (pa_cons pe_int pa_nil))) (pa_cons (pe_callR F_l_off (hr.mono (by decide)) rfl T.g_l_off T.k_l_off (pa_cons (pv 0) (pa_cons pe_int pa_nil))) pa_nil)) rfl)
      (pss_cons (ps_set (i := 7) sc_l_row.nd rfl (Or.inl rfl) (pe_callR F_l_off (hr.mono (by decide)) rfl T.g_l_off T.k_l_off (pa_cons (pv 0) (pa_cons (pe_ix ix_list (pe_lst (pa_cons pe_int (pa_cons pe_int pa_nil))) (pe_callR F_l_off (hr.mono (by decide)) rfl T.g_l_off T.k_l_off (pa_cons (pv 0) (pa_cons pe_int pa_nil))) (fun _ _ => rfl)) pa_nil))))
      (pss_cons (ps_if (pt_cmpR op_in_seq (pv 4) (pe_tup (pa_cons pe_str (pa_cons pe_str (pa_cons pe_str (pa_cons pe_str pa_nil))))) rfl) (pss_one (ps_ret (pe_tup (pa_cons (pv 4) (pa_cons (pv 5) (pa_cons (pv 6) pa_nil)))))) pss_nil)
      (pss_cons (ps_if (pt_cmpR op_in_seq (pv 4) (pe_tup (pa_cons pe_str (pa_cons pe_str pa_nil))) rfl) (pss_one (ps_ret (pe_ifExp (pt_cmpR op_eq (pv 4) pe_str (nomark _)) (pe_tup (pa_cons (pv 4) (pa_cons (pv 5) (pa_cons (pv 7) pa_nil)))) (pe_tup (pa_cons (pv 4) (pa_cons (pv 7) (pa_cons (pv 5) pa_nil))))))) pss_nil)
      (pss_cons (ps_if (pt_cmpR op_in_seq (pv 4) (pe_tup (pa_cons pe_str (pa_cons pe_str pa_nil))) rfl) (pss_one (ps_ret (pe_ifExp (pt_cmpR op_eq (pv 4) pe_str (nomark _)) (pe_tup (pa_cons (pv 4) (pa_cons (pe_op op_mod (pv 5) pe_int) (pa_cons (pv 7) pa_nil)))) (pe_tup (pa_cons (pv 4) (pa_cons (pv 7) (pa_cons (pe_op op_mod (pv 5) pe_int) pa_nil))))))) pss_nil)
      (pss_cons (ps_if (pt_cmpR op_in_seq (pv 4) (pe_tup (pa_cons pe_str (pa_cons pe_str pa_nil))) rfl) (pss_one (ps_ret (pe_ifExp (pt_cmpR op_eq (pv 4) pe_str (nomark _)) (pe_tup (pa_cons (pv 4) (pa_cons (pe_callR F_l_off (hr.mono (by decide)) rfl T.g_l_off T.k_l_off (pa_cons (pv 0) (pa_cons (pv 1) pa_nil))) pa_nil))) (pe_tup (pa_cons (pv 4) (pa_cons (pv 5) (pa_cons (pe_callR F_l_off (hr.mono (by decide)) rfl T.g_l_off T.k_l_off (pa_cons (pv 0) (pa_cons (pv 1) pa_nil))) pa_nil))))))) pss_nil)
      (pss_cons (ps_set (i := 8) sc_l_row.nd rfl (Or.inl rfl) (pe_disp (pps_cons pe_str (pe_tup (pa_cons (pv 5) (pa_cons (pe_callR F_l_off (hr.mono (by decide)) rfl T.g_l_off T.k_l_off (pa_cons (pv 0) (pa_cons pe_int pa_nil))) pa_nil))) (pps_cons pe_str (pe_tup (pa_cons (pe_callR F_l_off (hr.mono (by decide)) rfl T.g_l_off T.k_l_off (pa_cons (pv 0) (pa_cons pe_int pa_nil))) pa_nil)) (pps_cons pe_str (pe_tup (pa_cons (pv 5) (pa_cons (pe_callR F_l_off (hr.mono (by decide)) rfl T.g_l_off T.k_l_off (pa_cons (pv 0) (pa_cons pe_int pa_nil))) pa_nil))) (pps_cons pe_str (pe_tup pa_nil) pps_nil)))) rfl rfl (by simp) (by decide)))
      (pss_cons (ps_expr (pe_bm PySem.F.plainAttrs_dict PySem.F.slot_dict_update PySem.F.type_dict_update (mt_updP rfl) (pv 8) (pa_cons (pe_lst (pa_cons (pe_tup (pa_cons pe_str (pa_cons (pe_tup (pa_cons (pe_op op_mod (pv 5) pe_int) pa_nil)) pa_nil))) (pa_cons (pe_tup (pa_cons pe_str (pa_cons (pe_tup (pa_cons (pe_op op_mod (pv 5) pe_int) pa_nil)) pa_nil))) (pa_cons (pe_tup (pa_cons pe_str (pa_cons (pe_tup (pa_cons (pe_op op_add pe_int (pe_callR F_l_off (hr.mono (by decide)) rfl T.g_l_off T.k_l_off (pa_cons (pv 0) (pa_cons pe_int pa_nil)))) pa_nil)) pa_nil))) pa_nil)))) pa_nil)))
      (pss_one (ps_ret (pe_op op_catA (pe_tup (pa_cons (pv 4) pa_nil)) (pe_dget hu1 (pv 8) (pv 4) (fun _ _ => rfl)))))))))))))))), ?_⟩
    have S0 : StD H d sl cs.length H := ⟨f, p, cs, D, rfl, Kept.refl _ _⟩
    refine ⟨by show 14 ≤ sizeLine; decide, fun w1 hw1 => ?_⟩
    generalize hG1 : upd H w1 _ = G1
    have S1 : StD H d sl cs.length G1 := by rw [← hG1]; exact S0.new hw1
    have e1 : G1 w1 = some (.lst (L14.map Kd.v)) := by rw [← hG1]; exact upd_same
    clear hG1
    refine ⟨_, rfl, by show 8 ≤ sizeLine; decide, fun w2 hw2 => ?_⟩
    generalize hG2 : upd G1 w2 _ = G2
    have S2 : StD H d sl cs.length G2 := by rw [← hG2]; exact S1.new hw2
    have e2 : G2 w2 = some (.lst (L8.map Kd.v)) := by rw [← hG2]; exact upd_same
    have e12 : G2 w1 = some (.lst (L14.map Kd.v)) := by rw [← hG2, upd_ne (ne_of_none e1 hw2)]; exact e1
    clear hG2
    refine ⟨_, rfl, .inr ⟨_, rfl, ?_⟩⟩
    refine ⟨3, _, rfl, rfl, .inl ⟨by decide, by decide⟩, ?_⟩
    refine ⟨8, _, rfl, rfl, ?_⟩
    refine ⟨_, rfl, ?_⟩
    refine ⟨w2, L8.map Kd.v, rfl, SqL.of e2, fun w3 hw3 => ?_⟩
    rw [ecut]
    generalize hG3 : upd G2 w3 _ = G3
    have S3 : StD H d sl cs.length G3 := by rw [← hG3]; exact S2.new hw3
    have e3 : G3 w3 = some (.lst ((L8.take (if st = true then 5 else 8)).map Kd.v)) := by rw [← hG3]; exact upd_same
    have e13 : G3 w1 = some (.lst (L14.map Kd.v)) := by rw [← hG3, upd_ne (ne_of_none e12 hw3)]; exact e12
    clear hG3
    refine ⟨w1, w3, _, _, rfl, rfl, e13, e3, ?_, fun w4 hw4 => ?_⟩
    · rw [List.length_map, List.length_map, List.length_take]
      exact Nat.le_trans (Nat.add_le_add (Nat.le_refl 14) (Nat.min_le_right _ _)) (by decide)
    rw [← List.map_append]
    generalize hG4 : upd G3 w4 _ = G4
    have S4 : StD H d sl cs.length G4 := by rw [← hG4]; exact S3.new hw4
    have e4 : G4 w4 = some (.lst ((Lk st).map Kd.v)) := by rw [← hG4]; exact upd_same
    have nw4 : w4 ∉ [d, sl] := S3.nin hw4
    clear hG4 e3 e13 e12 e2 e1
    have via : ∀ {te : TE} {σ : L2.St} {Q : VK}, (∀ Q' : VK, (∀ kd Hn, (st = true → kd ≠ Kd.go ∧ kd ≠ Kd.iff) → StD H d sl cs.length Hn → Q' (.str kd.str) Hn) → te σ G4 Q') → (∀ kd Hn, (st = true → kd ≠ Kd.go ∧ kd ≠ Kd.iff) → StD H d sl cs.length Hn → Q (.str kd.str) Hn) → te σ G4 Q := fun h q => h _ q
    refine via (te := tIf (tTest (tOp (rI0 fun i j => V.bl (decide (j < i))) (tCallR (sp_l_off K) (tCons (tVar 0) (tCons (tC (V.int 25)) tNil))) (tC (V.int 0)))) (tOp (rIxL K) (tVar 3) (tCallR (sp_l_off K) (tCons (tVar 0) (tCons (tCB (fun xs H Q => ∃ p ys, xs = [.ref p] ∧ (SqL K H p ys ∨ SqT K H p ys) ∧ Q (.int ys.length) H) (tCons (tVar 3) tNil)) tNil)))) (tC (.str "end"))) (fun Q' k => ?_) (fun kd G5 gk S5 => ?_)
    · refine S4.off c63 rfl (fun _ h => h) (by decide) (by decide) (fun Hy v Sy ky v0 v1 => ?_)
      refine ⟨_, _, rfl, rfl, ?_⟩
      refine ⟨_, rfl, ?_⟩
      have ey : Hy w4 = some (.lst ((Lk st).map Kd.v)) := ky _ _ e4 nw4
      refine ite2 (fun c1 => ?_) (fun c1 => ?_)
      · refine ⟨_, rfl, ?_⟩
        refine Sy.off (m := ((Lk st).length : Int)) c63 rfl (fun Q2 h => ⟨_, rfl, _, _, rfl, .inl (SqL.of ey), by rw [List.length_map]; exact h⟩) (by rw [Lk_len]; cases st <;> decide) (by rw [Lk_len]; cases st <;> decide) (fun Hz u Sz kz u0 u1 => ?_)
        have ez : Hz w4 = some (.lst ((Lk st).map Kd.v)) := kz _ _ ey nw4
        obtain ⟨kd, hkd⟩ : ∃ kd, (Lk st)[u.toNat]? = some kd := ⟨_, List.getElem?_eq_getElem (by omega)⟩
        refine ⟨_, _, _, _, rfl, rfl, SqL.of ez, ?_, k kd Hz (fun hs => ?_) Sz⟩
        · unfold atI ixN
          rw [if_pos u0, List.length_map, if_pos u1]
          show ((Lk st).map Kd.v)[u.toNat]? = _
          rw [List.getElem?_map, hkd]
          rfl
        · subst hs
          exact Lk_st kd (List.mem_of_getElem? hkd)
      · exact k .fin Hy (fun _ => ⟨Kd.noConfusion, Kd.noConfusion⟩) Sy
    · refine S5.off c63 rfl (fun _ h => h) (by decide) (by decide) (fun G6 r S6 k6 r0 r1 => ?_)
      refine S6.off c63 rfl (fun _ h => h) (by decide) (by decide) (fun G7 x S7 k7 x0 x1 => ?_)
      refine ⟨_, _, rfl, ?_⟩
      refine S7.pick c63 rfl (by decide) (by decide) (by decide) (by decide) (fun G8 ad S8 k8 ad0 ad1 => ?_)
      have ad31 : rg 0 31 ad := ⟨ad0, by omega⟩
      have r3 : rg 0 3 r := ⟨r0, by omega⟩
      have x3 : rg 0 3 x := ⟨x0, by omega⟩
      have rm : rg 0 2 (r % 3) := ⟨by omega, by omega⟩
      clear S0 S1 S2 S3 S4 S5 S6 S7 via
      have fin : ∀ (Hx : Hp) (rw_ : Row) (t : Addr), StD H d sl cs.length Hx → H t = none → Hx t = some (.tup rw_.vs) → rw_.ok many.toNat → (st = true → (∀ x, rw_ ≠ .go x) ∧ ∀ x y, rw_ ≠ .iff x y) → Q (.ref t) Hx := fun Hx rw_ t Sx nt ht ok hs => by
        obtain ⟨f, p, cs', Dx, cx, kx⟩ := Sx
        exact q Hx f p cs' t rw_ Dx cx kx nt ht ok hs
      have tup3 : ∀ (Hx : Hp) (rw_ : Row), StD H d sl cs.length Hx → rw_.ok many.toNat → (st = true → (∀ x, rw_ ≠ .go x) ∧ ∀ x y, rw_ ≠ .iff x y) → ∀ t, Hx t = none → Q (.ref t) (upd Hx t (.tup rw_.vs)) := fun Hx rw_ Sx ok hs t ht => fin _ rw_ t (Sx.new ht) (Sx.free ht) upd_same ok hs
      cases kd
      case add =>
        refine t_in true rfl (fun _ => rfl) (by decide) (by kernel_rfl) (by kernel_rfl) (fun u0 hu0 => iteT ?_)
        refine ⟨_, rfl, _, rfl, _, rfl, by show 3 ≤ sizeLine; decide, fun t ht => ?_⟩
        exact tup3 _ (.add r x) (S8.new hu0) ⟨r3, x3⟩ (fun _ => ⟨fun _ => Row.noConfusion, fun _ _ => Row.noConfusion⟩) t ht
      case less =>
        refine t_in true rfl (fun _ => rfl) (by decide) (by kernel_rfl) (by kernel_rfl) (fun u0 hu0 => iteT ?_)
        refine ⟨_, rfl, _, rfl, _, rfl, by show 3 ≤ sizeLine; decide, fun t ht => ?_⟩
        exact tup3 _ (.less r x) (S8.new hu0) ⟨r3, x3⟩ (fun _ => ⟨fun _ => Row.noConfusion, fun _ _ => Row.noConfusion⟩) t ht
      case getx =>
        refine t_in true rfl (fun _ => rfl) (by decide) (by kernel_rfl) (by kernel_rfl) (fun u0 hu0 => iteT ?_)
        refine ⟨_, rfl, _, rfl, _, rfl, by show 3 ≤ sizeLine; decide, fun t ht => ?_⟩
        exact tup3 _ (.getx r x) (S8.new hu0) ⟨r3, x3⟩ (fun _ => ⟨fun _ => Row.noConfusion, fun _ _ => Row.noConfusion⟩) t ht
      case putx =>
        refine t_in true rfl (fun _ => rfl) (by decide) (by kernel_rfl) (by kernel_rfl) (fun u0 hu0 => iteT ?_)
        refine ⟨_, rfl, _, rfl, _, rfl, by show 3 ≤ sizeLine; decide, fun t ht => ?_⟩
        exact tup3 _ (.putx r x) (S8.new hu0) ⟨r3, x3⟩ (fun _ => ⟨fun _ => Row.noConfusion, fun _ _ => Row.noConfusion⟩) t ht
      case get =>
        refine t_in false rfl (fun _ => rfl) (by decide) (by kernel_rfl) (by kernel_rfl) (fun u0 hu0 => iteF ?_)
        refine t_in true rfl (fun _ => rfl) (by decide) (by kernel_rfl) (by kernel_rfl) (fun u1 hu1 => iteT ?_)
        refine ⟨_, rfl, rfl, _, rfl, ?_⟩
        rw [dec_str]
        rw [decide_eq_true (by rfl)]
        refine iteT ?_
        refine ⟨_, rfl, _, rfl, _, rfl, by show 3 ≤ sizeLine; decide, fun t ht => ?_⟩
        exact tup3 _ (.get r ad) ((S8.new hu0).new hu1) ⟨r3, ad31⟩ (fun _ => ⟨fun _ => Row.noConfusion, fun _ _ => Row.noConfusion⟩) t ht
      case put =>
        refine t_in false rfl (fun _ => rfl) (by decide) (by kernel_rfl) (by kernel_rfl) (fun u0 hu0 => iteF ?_)
        refine t_in true rfl (fun _ => rfl) (by decide) (by kernel_rfl) (by kernel_rfl) (fun u1 hu1 => iteT ?_)
        refine ⟨_, rfl, rfl, _, rfl, ?_⟩
        rw [dec_str]
        rw [decide_eq_false (by decide +kernel)]
        refine iteF ?_
        refine ⟨_, rfl, _, rfl, _, rfl, by show 3 ≤ sizeLine; decide, fun t ht => ?_⟩
        exact tup3 _ (.put ad r) ((S8.new hu0).new hu1) ⟨ad31, r3⟩ (fun _ => ⟨fun _ => Row.noConfusion, fun _ _ => Row.noConfusion⟩) t ht
      case pair =>
        refine t_in false rfl (fun _ => rfl) (by decide) (by kernel_rfl) (by kernel_rfl) (fun u0 hu0 => iteF ?_)
        refine t_in false rfl (fun _ => rfl) (by decide) (by kernel_rfl) (by kernel_rfl) (fun u1 hu1 => iteF ?_)
        refine t_in true rfl (fun _ => rfl) (by decide) (by kernel_rfl) (by kernel_rfl) (fun u2 hu2 => iteT ?_)
        refine ⟨_, rfl, rfl, _, rfl, ?_⟩
        rw [dec_str]
        rw [decide_eq_true (by rfl)]
        refine iteT ?_
        refine ⟨_, rfl, _, rfl, _, _, rfl, rfl, (by show (0 : Int) < 3; decide), _, rfl, by show 3 ≤ sizeLine; decide, fun t ht => ?_⟩
        exact tup3 _ (.pair (r % 3) ad) (((S8.new hu0).new hu1).new hu2) ⟨rm, ad31⟩ (fun _ => ⟨fun _ => Row.noConfusion, fun _ _ => Row.noConfusion⟩) t ht
      case lay =>
        refine t_in false rfl (fun _ => rfl) (by decide) (by kernel_rfl) (by kernel_rfl) (fun u0 hu0 => iteF ?_)
        refine t_in false rfl (fun _ => rfl) (by decide) (by kernel_rfl) (by kernel_rfl) (fun u1 hu1 => iteF ?_)
        refine t_in true rfl (fun _ => rfl) (by decide) (by kernel_rfl) (by kernel_rfl) (fun u2 hu2 => iteT ?_)
        refine ⟨_, rfl, rfl, _, rfl, ?_⟩
        rw [dec_str]
        rw [decide_eq_false (by decide +kernel)]
        refine iteF ?_
        refine ⟨_, rfl, _, rfl, _, rfl, _, _, rfl, rfl, (by show (0 : Int) < 3; decide), by show 3 ≤ sizeLine; decide, fun t ht => ?_⟩
        exact tup3 _ (.lay ad (r % 3)) (((S8.new hu0).new hu1).new hu2) ⟨ad31, rm⟩ (fun _ => ⟨fun _ => Row.noConfusion, fun _ _ => Row.noConfusion⟩) t ht
      case go =>
        refine t_in false rfl (fun _ => rfl) (by decide) (by kernel_rfl) (by kernel_rfl) (fun u0 hu0 => iteF ?_)
        refine t_in false rfl (fun _ => rfl) (by decide) (by kernel_rfl) (by kernel_rfl) (fun u1 hu1 => iteF ?_)
        refine t_in false rfl (fun _ => rfl) (by decide) (by kernel_rfl) (by kernel_rfl) (fun u2 hu2 => iteF ?_)
        refine t_in true rfl (fun _ => rfl) (by decide) (by kernel_rfl) (by kernel_rfl) (fun u3 hu3 => iteT ?_)
        refine ⟨_, rfl, rfl, _, rfl, ?_⟩
        rw [dec_str]
        rw [decide_eq_true (by rfl)]
        refine iteT ?_
        refine ⟨_, rfl, ?_⟩
        refine StD.off ((((S8.new hu0).new hu1).new hu2).new hu3) c63 rfl (fun _ h => ⟨_, rfl, h⟩) (by omega) (by omega) (fun G9 v S9 k9 v0 v1 => ?_)
        refine ⟨by show 2 ≤ sizeLine; decide, fun t ht => ?_⟩
        exact tup3 _ (.go v) S9 ⟨v0, by omega⟩ (fun hs => absurd rfl (gk hs).1) t ht
      case iff =>
        refine t_in false rfl (fun _ => rfl) (by decide) (by kernel_rfl) (by kernel_rfl) (fun u0 hu0 => iteF ?_)
        refine t_in false rfl (fun _ => rfl) (by decide) (by kernel_rfl) (by kernel_rfl) (fun u1 hu1 => iteF ?_)
        refine t_in false rfl (fun _ => rfl) (by decide) (by kernel_rfl) (by kernel_rfl) (fun u2 hu2 => iteF ?_)
        refine t_in true rfl (fun _ => rfl) (by decide) (by kernel_rfl) (by kernel_rfl) (fun u3 hu3 => iteT ?_)
        refine ⟨_, rfl, rfl, _, rfl, ?_⟩
        rw [dec_str]
        rw [decide_eq_false (by decide +kernel)]
        refine iteF ?_
        refine ⟨_, rfl, _, rfl, ?_⟩
        refine StD.off ((((S8.new hu0).new hu1).new hu2).new hu3) c63 rfl (fun _ h => ⟨_, rfl, h⟩) (by omega) (by omega) (fun G9 v S9 k9 v0 v1 => ?_)
        refine ⟨by show 3 ≤ sizeLine; decide, fun t ht => ?_⟩
        exact tup3 _ (.iff r v) S9 ⟨r3, v0, by omega⟩ (fun hs => absurd rfl (gk hs).2) t ht
      all_goals
        refine t_in false rfl (fun _ => rfl) (by decide) (by kernel_rfl) (by kernel_rfl) (fun u0 hu0 => iteF ?_)
        refine t_in false rfl (fun _ => rfl) (by decide) (by kernel_rfl) (by kernel_rfl) (fun u1 hu1 => iteF ?_)
        refine t_in false rfl (fun _ => rfl) (by decide) (by kernel_rfl) (by kernel_rfl) (fun u2 hu2 => iteF ?_)
        refine t_in false rfl (fun _ => rfl) (by decide) (by kernel_rfl) (by kernel_rfl) (fun u3 hu3 => iteF ?_)
        generalize hG9 : upd _ u3 _ = G9
        have S9 : StD H d sl cs.length G9 := by rw [← hG9]; exact (((S8.new hu0).new hu1).new hu2).new hu3
        clear hG9
        intro p hp
        have np : p ∉ [d, sl] := S9.nin hp
        generalize hP0 : upd G9 p _ = P0
        have SP0 : StD H d sl cs.length P0 := by rw [← hP0]; exact S9.new hp
        have p0 : P0 p = some (.dK []) := by rw [← hP0]; exact upd_same
        clear hP0
        refine ⟨_, rfl, ?_⟩
        refine SP0.off c63 rfl (fun _ h => h) (by decide) (by decide) (fun P1 v1 SP1 kk1 v10 v11 => ?_)
        have k1 : Tk P0 P1 := SP0.tk kk1
        have p1 : P1 p = some (.dK []) := kk1 _ _ p0 np
        refine ⟨by show 2 ≤ sizeLine; decide, fun t1 nt1 => ?_⟩
        generalize hP2 : upd P1 t1 _ = P2
        have SP2 : StD H d sl cs.length P2 := by rw [← hP2]; exact SP1.new nt1
        have k2 : Tk P1 P2 := by rw [← hP2]; exact Tk.same (Same.new (Same.refl _) nt1)
        have ht1 : P2 t1 = some (.tup [.int r, .int v1]) := by rw [← hP2]; exact upd_same
        have p2 : P2 p = some (.dK []) := by rw [← hP2, upd_ne (ne_of_none p1 nt1)]; exact p1
        clear hP2
        refine SP2.off c63 rfl (fun _ h => h) (by decide) (by decide) (fun P3 v2 SP3 kk3 v20 v21 => ?_)
        have k3 : Tk P2 P3 := SP2.tk kk3
        have p3 : P3 p = some (.dK []) := kk3 _ _ p2 np
        refine ⟨by show 1 ≤ sizeLine; decide, fun t2 nt2 => ?_⟩
        generalize hP4 : upd P3 t2 _ = P4
        have SP4 : StD H d sl cs.length P4 := by rw [← hP4]; exact SP3.new nt2
        have k4 : Tk P3 P4 := by rw [← hP4]; exact Tk.same (Same.new (Same.refl _) nt2)
        have ht2 : P4 t2 = some (.tup [.int v2]) := by rw [← hP4]; exact upd_same
        have p4 : P4 p = some (.dK []) := by rw [← hP4, upd_ne (ne_of_none p3 nt2)]; exact p3
        clear hP4
        refine ⟨_, rfl, ?_⟩
        refine SP4.off c63 rfl (fun _ h => h) (by decide) (by decide) (fun P5 v3 SP5 kk5 v30 v31 => ?_)
        have k5 : Tk P4 P5 := SP4.tk kk5
        have p5 : P5 p = some (.dK []) := kk5 _ _ p4 np
        refine ⟨by show 2 ≤ sizeLine; decide, fun t3 nt3 => ?_⟩
        generalize hP6 : upd P5 t3 _ = P6
        have SP6 : StD H d sl cs.length P6 := by rw [← hP6]; exact SP5.new nt3
        have k6 : Tk P5 P6 := by rw [← hP6]; exact Tk.same (Same.new (Same.refl _) nt3)
        have ht3 : P6 t3 = some (.tup [.int r, .int v3]) := by rw [← hP6]; exact upd_same
        have p6 : P6 p = some (.dK []) := by rw [← hP6, upd_ne (ne_of_none p5 nt3)]; exact p5
        clear hP6
        refine ⟨by show 0 ≤ sizeLine; decide, fun t4 nt4 => ?_⟩
        generalize hP7 : upd P6 t4 _ = P7
        have SP7 : StD H d sl cs.length P7 := by rw [← hP7]; exact SP6.new nt4
        have k7 : Tk P6 P7 := by rw [← hP7]; exact Tk.same (Same.new (Same.refl _) nt4)
        have ht4 : P7 t4 = some (.tup []) := by rw [← hP7]; exact upd_same
        have p7 : P7 p = some (.dK []) := by rw [← hP7, upd_ne (ne_of_none p6 nt4)]; exact p6
        clear hP7
        refine ⟨p7, [(Sum.inr "set", .ref t1), (Sum.inr "ask", .ref t2), (Sum.inr "done", .ref t3), (Sum.inr "end", .ref t4)], rfl, Nat.le_of_ble_eq_true rfl, ?_⟩
        generalize hM : mergeK [] _ = M
        generalize hP8 : upd P7 p _ = P8
        have kp8 : Kept [p] P7 P8 := by rw [← hP8]; exact (Kept.refl _ _).put (by simp)
        have k8 : Tk P7 P8 := Tk.put1 kp8 p7 rfl
        have SP8 : StD H d sl cs.length P8 := SP7.putP kp8 np (S9.free hp)
        have p8 : P8 p = some (.dK M) := by rw [← hP8]; exact upd_same
        clear hP8
        refine ⟨_, rfl, ?_⟩
        refine ⟨.inr (.inr (.inl ⟨rfl, .inl ⟨_, p8⟩⟩)), ?_⟩
        refine ⟨_, rfl, _, _, rfl, rfl, (by show (0 : Int) < 3; decide), ?_⟩
        refine ⟨by show 1 ≤ sizeLine; decide, fun a1 na1 => ?_⟩
        generalize hP9 : upd P8 a1 _ = P9
        have SP9 : StD H d sl cs.length P9 := by rw [← hP9]; exact SP8.new na1
        have k9 : Tk P8 P9 := by rw [← hP9]; exact Tk.same (Same.new (Same.refl _) na1)
        have ha1 : P9 a1 = some (.tup [.int (r % 3)]) := by rw [← hP9]; exact upd_same
        have p9 : P9 p = some (.dK M) := by rw [← hP9, upd_ne (ne_of_none p8 na1)]; exact p8
        clear hP9
        refine ⟨by show 2 ≤ sizeLine; decide, fun b1 nb1 => ?_⟩
        generalize hP10 : upd P9 b1 _ = P10
        have SP10 : StD H d sl cs.length P10 := by rw [← hP10]; exact SP9.new nb1
        have k10 : Tk P9 P10 := by rw [← hP10]; exact Tk.same (Same.new (Same.refl _) nb1)
        have hb1 : P10 b1 = some (.tup [.str "mark", .ref a1]) := by rw [← hP10]; exact upd_same
        have p10 : P10 p = some (.dK M) := by rw [← hP10, upd_ne (ne_of_none p9 nb1)]; exact p9
        clear hP10
        refine ⟨_, rfl, _, _, rfl, rfl, (by show (0 : Int) < 3; decide), ?_⟩
        refine ⟨by show 1 ≤ sizeLine; decide, fun a2 na2 => ?_⟩
        generalize hP11 : upd P10 a2 _ = P11
        have SP11 : StD H d sl cs.length P11 := by rw [← hP11]; exact SP10.new na2
        have k11 : Tk P10 P11 := by rw [← hP11]; exact Tk.same (Same.new (Same.refl _) na2)
        have ha2 : P11 a2 = some (.tup [.int (r % 3)]) := by rw [← hP11]; exact upd_same
        have p11 : P11 p = some (.dK M) := by rw [← hP11, upd_ne (ne_of_none p10 na2)]; exact p10
        clear hP11
        refine ⟨by show 2 ≤ sizeLine; decide, fun b2 nb2 => ?_⟩
        generalize hP12 : upd P11 b2 _ = P12
        have SP12 : StD H d sl cs.length P12 := by rw [← hP12]; exact SP11.new nb2
        have k12 : Tk P11 P12 := by rw [← hP12]; exact Tk.same (Same.new (Same.refl _) nb2)
        have hb2 : P12 b2 = some (.tup [.str "clear", .ref a2]) := by rw [← hP12]; exact upd_same
        have p12 : P12 p = some (.dK M) := by rw [← hP12, upd_ne (ne_of_none p11 nb2)]; exact p11
        clear hP12
        refine SP12.off c63 rfl (fun _ h => h) (by decide) (by decide) (fun P13 v4 SP13 kk13 v40 v41 => ?_)
        have k13 : Tk P12 P13 := SP12.tk kk13
        have p13 : P13 p = some (.dK M) := kk13 _ _ p12 np
        refine ⟨_, _, rfl, rfl, ?_⟩
        refine ⟨by show 1 ≤ sizeLine; decide, fun a3 na3 => ?_⟩
        generalize hP14 : upd P13 a3 _ = P14
        have SP14 : StD H d sl cs.length P14 := by rw [← hP14]; exact SP13.new na3
        have k14 : Tk P13 P14 := by rw [← hP14]; exact Tk.same (Same.new (Same.refl _) na3)
        have ha3 : P14 a3 = some (.tup [.int (1 + v4)]) := by rw [← hP14]; exact upd_same
        have p14 : P14 p = some (.dK M) := by rw [← hP14, upd_ne (ne_of_none p13 na3)]; exact p13
        clear hP14
        refine ⟨by show 2 ≤ sizeLine; decide, fun b3 nb3 => ?_⟩
        generalize hP15 : upd P14 b3 _ = P15
        have SP15 : StD H d sl cs.length P15 := by rw [← hP15]; exact SP14.new nb3
        have k15 : Tk P14 P15 := by rw [← hP15]; exact Tk.same (Same.new (Same.refl _) nb3)
        have hb3 : P15 b3 = some (.tup [.str "rest", .ref a3]) := by rw [← hP15]; exact upd_same
        have p15 : P15 p = some (.dK M) := by rw [← hP15, upd_ne (ne_of_none p14 nb3)]; exact p14
        clear hP15
        refine ⟨by show 3 ≤ sizeLine; decide, fun l nl => ?_⟩
        generalize hP16 : upd P15 l _ = P16
        have SP16 : StD H d sl cs.length P16 := by rw [← hP16]; exact SP15.new nl
        have k16 : Tk P15 P16 := by rw [← hP16]; exact Tk.same (Same.new (Same.refl _) nl)
        have hl : P16 l = some (.lst ([b1, b2, b3].map V.ref)) := by rw [← hP16]; exact upd_same
        have p16 : P16 p = some (.dK M) := by rw [← hP16, upd_ne (ne_of_none p15 nl)]; exact p15
        clear hP16
        refine ⟨p, l, [b1, b2, b3], M, [(Sum.inr "mark", .ref a1), (Sum.inr "clear", .ref a2), (Sum.inr "rest", .ref a3)], rfl, rfl, p16, hl, .cons (k16 _ _ (k15 _ _ (k14 _ _ (k13 _ _ (k12 _ _ (k11 _ _ hb1)))))) (.cons (k16 _ _ (k15 _ _ (k14 _ _ (k13 _ _ hb2)))) (.cons (k16 _ _ hb3) .nil)), ?_, ?_⟩
        · rw [← hM]; exact Nat.le_of_ble_eq_true (by kernel_rfl)
        generalize hN : mergeK M _ = N
        generalize hP17 : upd P16 p _ = P17
        have kp17 : Kept [p] P16 P17 := by rw [← hP17]; exact (Kept.refl _ _).put (by simp)
        have k17 : Tk P16 P17 := Tk.put1 kp17 p16 rfl
        have SP17 : StD H d sl cs.length P17 := SP16.putP kp17 np (S9.free hp)
        have p17 : P17 p = some (.dK N) := by rw [← hP17]; exact upd_same
        clear hP17
      · have hz := k17 _ _ (k16 _ _ (k15 _ _ (k14 _ _ (k13 _ _ (k12 _ _ (k11 _ _ (k10 _ _ (k9 _ _ (k8 _ _ (k7 _ _ (k6 _ _ (k5 _ _ (k4 _ _ (k3 _ _ (ht1)))))))))))))))
        refine ⟨_, rfl, by show 1 ≤ sizeLine; decide, fun y ny => ?_⟩
        have sy : Same P17 (upd P17 y (.tup [.str "set"])) := Same.new (Same.refl _) ny
        have hv : (some (V.ref t1) : Option V) = valV N (Sum.inr "set") := by rw [← hN, ← hM]; kernel_rfl
        refine ⟨_, rfl, _, rfl, p, .ref t1, rfl, .inl ⟨N, Sum.inr "set", .inl (sy _ _ p17), rfl, hv⟩, ?_⟩
        refine ⟨y, t1, _, _, rfl, rfl, SqT.of upd_same, SqT.of (sy _ _ hz), (by show 3 ≤ sizeLine; decide), (fun c => nomatch c), (fun _ c => nomatch c), fun _ _ t9 n9 => ?_⟩
        exact tup3 _ (.set r v1) (SP17.new ny) ⟨r3, v10, by omega⟩ (fun _ => ⟨fun _ => Row.noConfusion, fun _ _ => Row.noConfusion⟩) t9 n9
      · have hz := k17 _ _ (k16 _ _ (k15 _ _ (k14 _ _ (k13 _ _ (k12 _ _ (k11 _ _ (k10 _ _ (k9 _ _ (k8 _ _ (k7 _ _ (k6 _ _ (k5 _ _ (ht2)))))))))))))
        refine ⟨_, rfl, by show 1 ≤ sizeLine; decide, fun y ny => ?_⟩
        have sy : Same P17 (upd P17 y (.tup [.str "ask"])) := Same.new (Same.refl _) ny
        have hv : (some (V.ref t2) : Option V) = valV N (Sum.inr "ask") := by rw [← hN, ← hM]; kernel_rfl
        refine ⟨_, rfl, _, rfl, p, .ref t2, rfl, .inl ⟨N, Sum.inr "ask", .inl (sy _ _ p17), rfl, hv⟩, ?_⟩
        refine ⟨y, t2, _, _, rfl, rfl, SqT.of upd_same, SqT.of (sy _ _ hz), (by show 2 ≤ sizeLine; decide), (fun c => nomatch c), (fun _ c => nomatch c), fun _ _ t9 n9 => ?_⟩
        exact tup3 _ (.ask v2) (SP17.new ny) ⟨v20, by omega⟩ (fun _ => ⟨fun _ => Row.noConfusion, fun _ _ => Row.noConfusion⟩) t9 n9
      · have hz := k17 _ _ (k16 _ _ (k15 _ _ (k14 _ _ (k13 _ _ (k12 _ _ (k11 _ _ (k10 _ _ (k9 _ _ (k8 _ _ (k7 _ _ (ht3)))))))))))
        refine ⟨_, rfl, by show 1 ≤ sizeLine; decide, fun y ny => ?_⟩
        have sy : Same P17 (upd P17 y (.tup [.str "done"])) := Same.new (Same.refl _) ny
        have hv : (some (V.ref t3) : Option V) = valV N (Sum.inr "done") := by rw [← hN, ← hM]; kernel_rfl
        refine ⟨_, rfl, _, rfl, p, .ref t3, rfl, .inl ⟨N, Sum.inr "done", .inl (sy _ _ p17), rfl, hv⟩, ?_⟩
        refine ⟨y, t3, _, _, rfl, rfl, SqT.of upd_same, SqT.of (sy _ _ hz), (by show 3 ≤ sizeLine; decide), (fun c => nomatch c), (fun _ c => nomatch c), fun _ _ t9 n9 => ?_⟩
        exact tup3 _ (.done r v3) (SP17.new ny) ⟨r3, v30, by omega⟩ (fun _ => ⟨fun _ => Row.noConfusion, fun _ _ => Row.noConfusion⟩) t9 n9
      · have hz := k17 _ _ (k16 _ _ (k15 _ _ (k14 _ _ (k13 _ _ (k12 _ _ (k11 _ _ (k10 _ _ (ha1))))))))
        refine ⟨_, rfl, by show 1 ≤ sizeLine; decide, fun y ny => ?_⟩
        have sy : Same P17 (upd P17 y (.tup [.str "mark"])) := Same.new (Same.refl _) ny
        have hv : (some (V.ref a1) : Option V) = valV N (Sum.inr "mark") := by rw [← hN, ← hM]; kernel_rfl
        refine ⟨_, rfl, _, rfl, p, .ref a1, rfl, .inl ⟨N, Sum.inr "mark", .inl (sy _ _ p17), rfl, hv⟩, ?_⟩
        refine ⟨y, a1, _, _, rfl, rfl, SqT.of upd_same, SqT.of (sy _ _ hz), (by show 2 ≤ sizeLine; decide), (fun c => nomatch c), (fun _ c => nomatch c), fun _ _ t9 n9 => ?_⟩
        exact tup3 _ (.mark (r % 3)) (SP17.new ny) rm (fun _ => ⟨fun _ => Row.noConfusion, fun _ _ => Row.noConfusion⟩) t9 n9
      · have hz := k17 _ _ (k16 _ _ (k15 _ _ (k14 _ _ (k13 _ _ (k12 _ _ (ha2))))))
        refine ⟨_, rfl, by show 1 ≤ sizeLine; decide, fun y ny => ?_⟩
        have sy : Same P17 (upd P17 y (.tup [.str "clear"])) := Same.new (Same.refl _) ny
        have hv : (some (V.ref a2) : Option V) = valV N (Sum.inr "clear") := by rw [← hN, ← hM]; kernel_rfl
        refine ⟨_, rfl, _, rfl, p, .ref a2, rfl, .inl ⟨N, Sum.inr "clear", .inl (sy _ _ p17), rfl, hv⟩, ?_⟩
        refine ⟨y, a2, _, _, rfl, rfl, SqT.of upd_same, SqT.of (sy _ _ hz), (by show 2 ≤ sizeLine; decide), (fun c => nomatch c), (fun _ c => nomatch c), fun _ _ t9 n9 => ?_⟩
        exact tup3 _ (.clear (r % 3)) (SP17.new ny) rm (fun _ => ⟨fun _ => Row.noConfusion, fun _ _ => Row.noConfusion⟩) t9 n9
      · have hz := k17 _ _ (k16 _ _ (k15 _ _ (ha3)))
        refine ⟨_, rfl, by show 1 ≤ sizeLine; decide, fun y ny => ?_⟩
        have sy : Same P17 (upd P17 y (.tup [.str "rest"])) := Same.new (Same.refl _) ny
        have hv : (some (V.ref a3) : Option V) = valV N (Sum.inr "rest") := by rw [← hN, ← hM]; kernel_rfl
        refine ⟨_, rfl, _, rfl, p, .ref a3, rfl, .inl ⟨N, Sum.inr "rest", .inl (sy _ _ p17), rfl, hv⟩, ?_⟩
        refine ⟨y, a3, _, _, rfl, rfl, SqT.of upd_same, SqT.of (sy _ _ hz), (by show 2 ≤ sizeLine; decide), (fun c => nomatch c), (fun _ c => nomatch c), fun _ _ t9 n9 => ?_⟩
        exact tup3 _ (.rest (1 + v4)) (SP17.new ny) ⟨by omega, by omega⟩ (fun _ => ⟨fun _ => Row.noConfusion, fun _ _ => Row.noConfusion⟩) t9 n9
      · have hz := k17 _ _ (k16 _ _ (k15 _ _ (k14 _ _ (k13 _ _ (k12 _ _ (k11 _ _ (k10 _ _ (k9 _ _ (k8 _ _ (ht4))))))))))
        refine ⟨_, rfl, by show 1 ≤ sizeLine; decide, fun y ny => ?_⟩
        have sy : Same P17 (upd P17 y (.tup [.str "end"])) := Same.new (Same.refl _) ny
        have hv : (some (V.ref t4) : Option V) = valV N (Sum.inr "end") := by rw [← hN, ← hM]; kernel_rfl
        refine ⟨_, rfl, _, rfl, p, .ref t4, rfl, .inl ⟨N, Sum.inr "end", .inl (sy _ _ p17), rfl, hv⟩, ?_⟩
        refine ⟨y, t4, _, _, rfl, rfl, SqT.of upd_same, SqT.of (sy _ _ hz), (by show 1 ≤ sizeLine; decide), (fun c => nomatch c), fun _ _ => ?_, fun _ c => absurd rfl c⟩
        exact fin _ .fin y (SP17.new ny) (SP17.free ny) upd_same trivial (fun _ => ⟨fun _ => Row.noConfusion, fun _ _ => Row.noConfusion⟩)
end
end SB

set_option Elab.async false
set_option linter.all false
set_option maxRecDepth 100000
set_option maxHeartbeats 4000000
namespace SB
open PySem PySem.Spec PyProof.Rows L2 LamX StX
abbrev NWd : List Str := ["_law_work", "_law_e", "_law_kinds", "_law_words", "_law_word_here"]
def wordSuite : List Stmt := match defBody s_l_word with
  | .Try _ [.ExceptHandler _ _ b _] _ _ _ :: _ => b
  | _ => []
def cls11 : List Str := ["BadProgram", "BadWorks", "BadAsks", "BadLog", "BadText", "BadMemory", "BadBeats", "BadWindow", "BadClaim", "BadRow", "Crooked"]
def wrd11 : List Str := ["program", "works", "asks", "log", "text", "memory", "beats", "window", "claim", "row", "crooked"]
structure AtW (K : PySem.W.Frag) (D : Addr) (j : Nat) : Prop where
  ex : L2.ExcC K D
  cl : (PySem.W.clsIn K D).isSome = true
  xf : XfC K D
  no : PySem.W.findIn K (.ref D) "at" = some none
  ve : PySem.W.kitOne K (.ref D) (.type "ValueError") = some true
  j4 : j < 4
  kit : ∀ (i : Nat) (x : Str), cls11[i]? = some x → PySem.W.kitOne K (.ref D) (.ref (He.ga K x)) = some (decide (i = j))
def flags (j : Nat) : List V := (List.range 11).map fun i => .bl (decide (i = j))
section
variable {P : Program} {w : World} {K : PySem.W.Frag} {mg : Str → Option Value} {base : Heap} {H H' : Hp}
theorem isE {D a dd : Addr} {j : Nat} {v : V} {Q : VK} (W : AtW K D j) (hd : H dd = some (.xd [("at", v)])) (i : Nat) (x : Str) (hi : cls11[i]? = some x) (q : Q (.bl (decide (i = j))) H) : rIsEd K D a (some dd) [.ref a, .ref (He.ga K x)] H Q :=
  ⟨_, _, _, dd, v, rfl, fun _ e => e, W.kit i x hi, rfl, hd, q⟩
theorem isEC {D a dd : Addr} {j : Nat} {v : V} {Q : VK} {σ : L2.St} (W : AtW K D j) (hd : H dd = some (.xd [("at", v)])) (hσ : σ[1]? = some (some (.ref a))) (i : Nat) (x : Str) (hi : cls11[i]? = some x) (q : Q (.bl (decide (i = j))) H) :
    tCB (rIsEd K D a (some dd)) (tCons (tVar 1) (tCons (tC (.ref (He.ga K x))) tNil)) σ H Q := by
  refine ⟨_, hσ, ?_⟩
  exact isE (Q := Q) W hd i x hi q
theorem isEV {D a dd : Addr} {j : Nat} {v : V} {Q : VK} {σ : L2.St} (W : AtW K D j) (hd : H dd = some (.xd [("at", v)])) (hσ : σ[1]? = some (some (.ref a))) (q : Q (.bl true) H) :
    tCB (rIsEd K D a (some dd)) (tCons (tVar 1) (tCons (tC (.ty "ValueError")) tNil)) σ H Q := by
  refine ⟨_, hσ, ?_⟩
  exact ⟨_, .type "ValueError", true, dd, v, rfl, fun _ e => e, W.ve, rfl, hd, q⟩
def RW (a : Addr) (d : Option Addr) (j : Nat) (D : Ends) (σ : L2.St) (H : Hp) : Prop := ∃ (x0 x2 x3 x4 : Option V) (dd : Addr) (v : V) (z : Str), σ = [x0, some (.ref a), x2, x3, x4] ∧ d = some dd ∧ H dd = some (.xd [("at", v)]) ∧ wrd11[j]? = some z ∧ ∀ H' t, Same H H' → H' t = some (.tup [.str z, v]) → D.rt (.ref t) H'
theorem word_suite (T : T w K mg) {cdg : Value} {g a C : Addr} {A : Around} {stack : List Env} {s : Shared} {H0 : Hp} {j : Nat} {oe : Obj} {d : Option Addr} {pn : List (Addr × Obj)} (W : AtW K C j) (hz : Zc (.ref C) d oe) (hf : ∃ vs, oe.data = .fields vs) :
    PSs ((cxOf C8.CX0 P w K mg base NWd "_law_word" (defScope s_l_word) g cdg A stack s H0 C8.E0).nox.suite a ((a, oe) :: pn)) wordSuite (RW a d j) := by
  suffices h : ∃ t, PSs ((cxOf C8.CX0 P w K mg base NWd "_law_word" (defScope s_l_word) g cdg A stack s H0 C8.E0).nox.suite a ((a, oe) :: pn)) wordSuite t ∧ ∀ D σ H, RW a d j D σ H → t D σ H by
    obtain ⟨t, h1, h2⟩ := h
    exact ⟨fun pins s' σ H' D I h => h1.run pins s' σ H' D I (h2 D σ H' h)⟩
  have ci := call_isEd (X := (cxOf C8.CX0 P w K mg base NWd "_law_word" (defScope s_l_word) g cdg A stack s H0 C8.E0).nox) (pn := pn) (a := a) W.ex W.cl hz hf
  refine ⟨_, (pss_cons (ps_set (i := 2) sc_l_word.nd rfl (Or.inl rfl) (pe_lst (pa_cons (pe_callB ci rfl T.u_isinstance rfl (pa_cons (pv 1) (pa_cons (pe_glob (v := .ref (He.ga K "BadProgram")) rfl T.g_BadProgram rfl) pa_nil))) (pa_cons (pe_callB ci rfl T.u_isinstance rfl (pa_cons (pv 1) (pa_cons (pe_glob (v := .ref (He.ga K "BadWorks")) rfl T.g_BadWorks rfl) pa_nil))) (pa_cons (pe_callB ci rfl T.u_isinstance rfl (pa_cons (pv 1) (pa_cons (pe_glob (v := .ref (He.ga K "BadAsks")) rfl T.g_BadAsks rfl) pa_nil))) (pa_cons (pe_callB ci rfl T.u_isinstance rfl (pa_cons (pv 1) (pa_cons (pe_glob (v := .ref (He.ga K "BadLog")) rfl T.g_BadLog rfl) pa_nil))) pa_nil))))))
  (pss_cons (ps_set (i := 2) sc_l_word.nd rfl (Or.inl rfl) (pe_op op_cat (pv 2) (pe_lst (pa_cons (pe_callB ci rfl T.u_isinstance rfl (pa_cons (pv 1) (pa_cons (pe_glob (v := .ref (He.ga K "BadText")) rfl T.g_BadText rfl) pa_nil))) (pa_cons (pe_callB ci rfl T.u_isinstance rfl (pa_cons (pv 1) (pa_cons (pe_glob (v := .ref (He.ga K "BadMemory")) rfl T.g_BadMemory rfl) pa_nil))) (pa_cons (pe_callB ci rfl T.u_isinstance rfl (pa_cons (pv 1) (pa_cons (pe_glob (v := .ref (He.ga K "BadBeats")) rfl T.g_BadBeats rfl) pa_nil))) pa_nil))))))
  (pss_cons (ps_set (i := 2) sc_l_word.nd rfl (Or.inl rfl) (pe_op op_cat (pv 2) (pe_lst (pa_cons (pe_callB ci rfl T.u_isinstance rfl (pa_cons (pv 1) (pa_cons (pe_glob (v := .ref (He.ga K "BadWindow")) rfl T.g_BadWindow rfl) pa_nil))) (pa_cons (pe_callB ci rfl T.u_isinstance rfl (pa_cons (pv 1) (pa_cons (pe_glob (v := .ref (He.ga K "BadClaim")) rfl T.g_BadClaim rfl) pa_nil))) (pa_cons (pe_callB ci rfl T.u_isinstance rfl (pa_cons (pv 1) (pa_cons (pe_glob (v := .ref (He.ga K "BadRow")) rfl T.g_BadRow rfl) pa_nil))) pa_nil))))))
  (pss_cons (ps_expr (pe_bm PySem.F.plainAttrs_list PySem.F.slot_list_append PySem.F.type_list_append mt_append (pv 2) (pa_cons (pe_callB ci rfl T.u_isinstance rfl (pa_cons (pv 1) (pa_cons (pe_glob (v := .ref (He.ga K "Crooked")) rfl T.g_Crooked rfl) pa_nil))) pa_nil)))
  (pss_cons (ps_if (PW.pt (pw_or (pt_cmpR op_ne (pe_bm PySem.F.plainAttrs_list PySem.F.slot_list_count PySem.F.type_list_count mt_countB (pv 2) (pa_cons pe_bl pa_nil)) pe_int (nomark _)) (pw_or1 (pt_not (pt_val (pe_callB ci rfl T.u_isinstance rfl (pa_cons (pv 1) (pa_cons (pe_bltn (v := .ty "ValueError") rfl T.u_ValueError rfl rfl) pa_nil))))))))
  (pss_one (ps_ret (pe_tup (pa_cons pe_str (pa_cons pe_int pa_nil)))))
  pss_nil)
  (pss_cons (ps_set (i := 3) sc_l_word.nd rfl (Or.inl rfl) (pe_lst (pa_cons pe_str (pa_cons pe_str (pa_cons pe_str (pa_cons pe_str (pa_cons pe_str (pa_cons pe_str (pa_cons pe_str (pa_cons pe_str (pa_cons pe_str (pa_cons pe_str (pa_cons pe_str pa_nil)))))))))))))
  (pss_cons (ps_set (i := 4) sc_l_word.nd rfl (Or.inl rfl) (pe_ix ix_list (pv 3) (pe_bm PySem.F.plainAttrs_list PySem.F.slot_list_index PySem.F.type_list_index mt_index (pv 2) (pa_cons pe_bl pa_nil)) (fun _ _ => rfl)))
  (pss_cons (ps_if (pt_cmpR op_in_seq (pv 4) (pe_tup (pa_cons pe_str (pa_cons pe_str (pa_cons pe_str (pa_cons pe_str pa_nil))))) rfl)
  (pss_one (ps_ret (pe_tup (pa_cons (pv 4) (pa_cons (pe_xf W.xf W.no hz hf (pv 1)) pa_nil)))))
  pss_nil)
  (pss_one ps_never))))))))), ?_⟩
  rintro D σ H ⟨x0, x2, x3, x4, dd, v, z, rfl, rfl, hd, hwz, q⟩
  -- the eleven
  refine isEC W hd rfl 0 "BadProgram" rfl ?_
  refine isEC W hd rfl 1 "BadWorks" rfl ?_
  refine isEC W hd rfl 2 "BadAsks" rfl ?_
  refine isEC W hd rfl 3 "BadLog" rfl ?_
  refine ⟨by show 4 ≤ sizeLine; decide, fun p1 h1 => ?_⟩
  generalize hG1 : upd H p1 _ = G1
  have s1 : Same H G1 := by rw [← hG1]; exact Same.new (Same.refl _) h1
  have e1 : G1 p1 = some (.lst [.bl (decide (0 = j)), .bl (decide (1 = j)), .bl (decide (2 = j)), .bl (decide (3 = j))]) := by rw [← hG1]; exact upd_same
  clear hG1
  have hd1 := s1 _ _ hd
  refine ⟨_, rfl, ?_⟩
  refine isEC W hd1 rfl 4 "BadText" rfl ?_
  refine isEC W hd1 rfl 5 "BadMemory" rfl ?_
  refine isEC W hd1 rfl 6 "BadBeats" rfl ?_
  refine ⟨by show 3 ≤ sizeLine; decide, fun p2 h2 => ?_⟩
  generalize hG2 : upd G1 p2 _ = G2
  have s2 : Same G1 G2 := by rw [← hG2]; exact Same.new (Same.refl _) h2
  have e2 : G2 p2 = some (.lst [.bl (decide (4 = j)), .bl (decide (5 = j)), .bl (decide (6 = j))]) := by rw [← hG2]; exact upd_same
  clear hG2
  refine ⟨p1, p2, _, _, rfl, rfl, s2 _ _ e1, e2, by show 4 + 3 ≤ sizeLine; decide, fun p3 h3 => ?_⟩
  generalize hG3 : upd G2 p3 _ = G3
  have s3 : Same H G3 := (s1.trans s2).trans (by rw [← hG3]; exact Same.new (Same.refl _) h3)
  have e3 : G3 p3 = some (.lst [.bl (decide (0 = j)), .bl (decide (1 = j)), .bl (decide (2 = j)), .bl (decide (3 = j)), .bl (decide (4 = j)), .bl (decide (5 = j)), .bl (decide (6 = j))]) := by rw [← hG3]; exact upd_same
  clear hG3 s1 s2 e1 e2 hd1
  have hd3 := s3 _ _ hd
  refine ⟨_, rfl, ?_⟩
  refine isEC W hd3 rfl 7 "BadWindow" rfl ?_
  refine isEC W hd3 rfl 8 "BadClaim" rfl ?_
  refine isEC W hd3 rfl 9 "BadRow" rfl ?_
  refine ⟨by show 3 ≤ sizeLine; decide, fun p4 h4 => ?_⟩
  generalize hG4 : upd G3 p4 _ = G4
  have s4 : Same G3 G4 := by rw [← hG4]; exact Same.new (Same.refl _) h4
  have e4 : G4 p4 = some (.lst [.bl (decide (7 = j)), .bl (decide (8 = j)), .bl (decide (9 = j))]) := by rw [← hG4]; exact upd_same
  clear hG4
  refine ⟨p3, p4, _, _, rfl, rfl, s4 _ _ e3, e4, by show 7 + 3 ≤ sizeLine; decide, fun p5 h5 => ?_⟩
  generalize hG5 : upd G4 p5 _ = G5
  have s5 : Same H G5 := (s3.trans s4).trans (by rw [← hG5]; exact Same.new (Same.refl _) h5)
  have e5 : G5 p5 = some (.lst [.bl (decide (0 = j)), .bl (decide (1 = j)), .bl (decide (2 = j)), .bl (decide (3 = j)), .bl (decide (4 = j)), .bl (decide (5 = j)), .bl (decide (6 = j)), .bl (decide (7 = j)), .bl (decide (8 = j)), .bl (decide (9 = j))]) := by rw [← hG5]; exact upd_same
  have n5 : H p5 = none := Same.free (s3.trans s4) h5
  clear hG5 s3 s4 e3 e4 hd3
  have hd5 := s5 _ _ hd
  refine ⟨_, rfl, .inl ⟨rfl, _, SqL.of e5⟩, ?_⟩
  refine isEC W hd5 rfl 10 "Crooked" rfl ?_
  refine ⟨p5, _, _, rfl, rfl, e5, by show 10 < sizeLine; decide, ?_⟩
  generalize hG6 : upd G5 p5 _ = G6
  have s6 : Same H G6 := by
    rw [← hG6]
    intro b o e
    rw [upd_ne (ne_of_none e n5)]
    exact s5 b o e
  have e6 : G6 p5 = some (.lst (((List.range 11).map fun i => decide (i = j)).map V.bl)) := by rw [← hG6]; exact upd_same
  clear hG6 s5 e5 hd5 n5
  have hd6 := s6 _ _ hd
  refine ⟨_, rfl, .inl ⟨rfl, _, SqL.of e6⟩, ?_⟩
  refine ⟨p5, _, rfl, rfl, e6, ?_⟩
  have hc : ((List.range 11).map fun i => decide (i = j)).countP id = 1 := by
    have := W.j4
    match j, this with
    | 0, _ => rfl
    | 1, _ => rfl
    | 2, _ => rfl
    | 3, _ => rfl
  rw [hc]
  refine ⟨rfl, _, rfl, ?_⟩
  refine iteF ?_
  refine isEV W hd6 rfl ?_
  refine ⟨_, rfl, iteF ?_⟩
  refine ⟨by show 11 ≤ sizeLine; decide, fun p6 h6 => ?_⟩
  generalize hG7 : upd G6 p6 _ = G7
  have s67 : Same G6 G7 := by rw [← hG7]; exact Same.new (Same.refl _) h6
  have e7 : G7 p6 = some (.lst (wrd11.map V.str)) := by rw [← hG7]; exact upd_same
  clear hG7
  have s7 := s6.trans s67
  have e67 := s67 _ _ e6
  have hd7 := s7 _ _ hd
  have hj := W.j4
  refine ⟨_, rfl, ⟨_, rfl, .inl ⟨rfl, _, SqL.of e67⟩, ?_⟩⟩
  refine ⟨p5, _, .bl true, j, .bl true, rfl, rfl, SqL.of e67, rfl, ?_, ?_, rfl, ?_, ?_⟩
  · rw [List.all_eq_true]
    intro x hx
    rw [List.map_map] at hx
    obtain ⟨i, _, rfl⟩ := List.mem_map.mp hx
    rfl
  · match j, hj with
    | 0, _ => rfl
    | 1, _ => rfl
    | 2, _ => rfl
    | 3, _ => rfl
  · intro m z' hm hz'
    rw [List.map_map, List.getElem?_map, List.getElem?_range (by omega)] at hz'
    have e := Option.some.inj hz'
    subst e
    show eqV (.bl (decide (m = j))) (.bl true) = false
    rw [decide_eq_false (by omega)]
    rfl
  refine ⟨p6, _, _, .str z, rfl, rfl, SqL.of e7, ?_, ?_⟩
  · rw [at_eqJ (by show j < 11; omega)]
    rw [List.getElem?_map]
    show Option.map V.str wrd11[j]? = _
    rw [hwz]
    rfl
  refine t_in true rfl (fun _ => rfl) (by show 4 ≤ sizeLine; decide) rfl ?_ (fun t ht => iteT ?_)
  · match j, hj with
    | 0, _ => cases hwz; kernel_rfl
    | 1, _ => cases hwz; kernel_rfl
    | 2, _ => cases hwz; kernel_rfl
    | 3, _ => cases hwz; kernel_rfl
  have s8 : Same H (upd G7 t (.tup [.str "program", .str "works", .str "asks", .str "log"])) := s7.trans (Same.new (Same.refl _) ht)
  refine ⟨_, rfl, ⟨_, rfl, rfl, rfl, dd, _, v, rfl, s8 _ _ hd, rfl, ?_⟩⟩
  refine ⟨by show 2 ≤ sizeLine; decide, fun t2 ht2 => ?_⟩
  exact q _ t2 (s8.trans (Same.new (Same.refl _) ht2)) upd_same
end
end SB

set_option Elab.async false
set_option linter.all false
set_option maxRecDepth 100000
set_option maxHeartbeats 4000000
namespace SB
open PySem PySem.Spec PyProof.Rows L2 LamX StX
def TTW (K : PySem.W.Frag) : (XK → Hp → VK → Prop) → Hp → VK → Prop := fun tl H Q => ∀ EW : XK,
  (∀ (C dd : Addr) (j : Nat) (v : V) (z : Str) (H' : Hp), AtW K C j → PySem.W.exmOne K (.ref C) (.ref (He.ga K "BeatError")) = some true → wrd11[j]? = some z → H' dd = some (.xd [("at", v)]) → (∀ H'' t, Same H' H'' → H'' t = some (.tup [.str z, v]) → Q (.ref t) H'') → EW (.ref C) (some dd) H') →
  tl EW H (fun _ H' => Q .non H')
theorem word_gives {X : Cx} (T : T X.w X.K X.mg) {g : Addr} {cdg : Value} {q : Str} : GivesTo X NWd "_law_word" (defScope s_l_word) g cdg (defBody s_l_word) "_law_work" q (TTW X.K) := by
  obtain ⟨prog, w, K, mg, base, A, N, s_0, H_0, env, outer, stack, ex, fn, calm, pn, xe⟩ := X
  intro f c' s H Q tl act hc h
  have hpe := act
  refine ⟨_, (pss_cons (ps_try_as (X := (cxOf C8.CX0 prog w K mg base NWd "_law_word" (defScope s_l_word) g cdg A stack s H C8.E0).nox) (c := .ref (He.ga K "BeatError")) (i := 1)
      (tb := fun W => tDrop fun σZ HZ Q => σZ[0]? = some (some (.ref f)) ∧ HZ c' = some (CodeO c' q) ∧ tl (fun cls d H' => ∀ σ' : L2.St, σ'.length = 5 → W cls d σ' H') HZ Q)
      (ts := fun a cls d D σ H => ∃ (C : Addr) (j : Nat), cls = .ref C ∧ AtW K C j ∧ RW a d j D σ H)
      (Wout := fun _ _ _ _ => False) rfl rfl (show NWd.Nodup by decide) rfl rfl ⟨rfl, by decide, Or.inl T.g_BeatError⟩ takes0 (fun W pn xe tk hpo => ?_) (fun a oe cls d pn hz hf => ?_))
    (pss_one (ps_ret pe_non))), ?_⟩
  · exact pss_one (ps_expr (hpe _ pn xe (fun cls d H' => ∀ σ' : L2.St, σ'.length = 5 → W cls d σ' H') _ _ (takes_len tk) (fun cls d σ' H' h hl => h σ' hl)))
  · refine ⟨fun pins s' σ H' D I h' => ?_⟩
    obtain ⟨C, j, rfl, W, hrw⟩ := h'
    exact (word_suite T W hz hf).run pins s' σ H' D I hrw
  · refine ⟨rfl, hc, h _ (fun C dd j v z H' W hte hwz hd hq σ' hl => ⟨true, hte, fun _ a ha => ⟨C, j, rfl, W, ?_⟩, fun z => by cases z⟩)⟩
    match σ', hl with
    | [x0, x1, x2, x3, x4], _ => exact ⟨x0, x2, x3, x4, dd, v, z, rfl, rfl, hd, hwz, hq⟩
end SB

set_option Elab.async false
set_option linter.all false
set_option maxRecDepth 100000
set_option maxHeartbeats 1000000
namespace SB
open PySem PySem.Spec PyProof.Rows L2 LamX StX CloX
section
variable {P : Program} {w : World} {K : PySem.W.Frag} {mg : Str → Option Value} {base : Heap}
def sp_wordC (P : Program) (w : World) (K : PySem.W.Frag) (mg : Str → Option Value) (base : Heap) (k : Nat) : Sp := fun vs H Q _ => ∃ (f : Addr) (F : Clo) (B : CloB P w K mg base k F), vs = [.ref f] ∧ FnAt H f F ∧ TTW K (fun E H Q => tCloB B f E H Q) H Q
theorem ok_word_clo (T : T w K mg) (k : Nat) : FnR P w K mg base CX0 (k + 2) (He.ga K "_law_word") (sp_wordC P w K mg base k) := by
  obtain ⟨fdw, Fw⟩ := T.f_l_word
  have bW : Binds K fdw ["_law_work"] [] := Fw.bindsN fun _ _ _ _ _ _ us hl => match us, hl with | [_], _ => rfl
  obtain ⟨oc, od, dV, kV, doc, pm, an, cdvw, ctw, osl, rfl, lkw, hcw, _, _⟩ := Fw.ex
  intro A outer s H us vs Q E hr e0 r hsp
  obtain ⟨f, F, B, rfl, C, h⟩ := hsp
  have hl : us.length = 1 := r.length.symm
  have KX : K.In s.heap := e0.mod.kin.keeps fun b o e => (e0.bs b o e).1
  have bw := bW s us KX (by rw [List.append_nil]; exact hl)
  rw [List.append_nil] at bw
  refine run_ofS (CX := CX0) (E := E) (N := NWd) (ps := ["_law_work"]) lkw hcw sc_l_word hr e0 bw r rfl (fun hr' => ?_)
  let X0 : Cx := ⟨P, w, K, mg, base, A, [], s, H, envOfC "" (defScope s_l_word) 0 0 .none, outer, outer, [], fun _ => true, true, [], fun _ _ => True⟩
  have act : ∀ (W : WX) (pn : List (Addr × Obj)) (xe : Value → Shared → Prop) (E : XK) (p1 p2 : Pos), Takes ((cxOf C8.CX0 P w K mg base NWd "_law_word" (defScope s_l_word) (He.ga K "_law_word") cdvw A outer s H C8.E0).tr pn xe) W → (∀ cls d σ' H', E cls d H' → W cls d σ' H') →
      PE ((cxOf C8.CX0 P w K mg base NWd "_law_word" (defScope s_l_word) (He.ga K "_law_word") cdvw A outer s H C8.E0).tr pn xe) (.Call (.Name "_law_work" p1) [] [] p2) (fun σZ HZ Q => σZ[0]? = some (some (.ref f)) ∧ HZ F.c' = some (CodeO F.c' F.q) ∧ tCloB B f E HZ Q) := fun W pn xe E p1 p2 tk hW => by
    have hp := pe_cloact (i := 0) (a := "_law_work") (p1 := p1) (p2 := p2) (Z := (cxOf C8.CX0 P w K mg base NWd "_law_word" (defScope s_l_word) (He.ga K "_law_word") cdvw A outer s H C8.E0).tr pn xe) (k := k) B (f := f) tk hW hr' rfl (.inl rfl)
    exact ⟨fun pins s' σ H' Q' I h' => hp.run pins s' σ H' Q' I ⟨h'.1, h'.2.2⟩⟩
  obtain ⟨t', ht', hq'⟩ := word_gives (X := X0) T (g := He.ga K "_law_word") (cdg := cdvw) (q := F.q) f F.c' s H Q (fun E H Q => tCloB B f E H Q) act C.code h
  exact ⟨t', ht'.nox, hq'⟩
end
end SB

set_option Elab.async false
set_option linter.all false
set_option maxRecDepth 100000
set_option maxHeartbeats 1000000
namespace SB
open PySem PySem.Spec PyProof.Rows L2 LamX StX CloX
theorem atwOf {P : Program} {K : PySem.W.Frag} {mg : Str → Option Value} {nm s1 s2 : Str} {fI B : Addr} {j : Nat} (I : PySem.BadX.IsT K nm ["BadMemory", "BadBeats", "BadWindow", "BadClaim", "BadRow", "Crooked", "BadProgram", "BadWorks", "BadAsks", "BadLog", "BadText"]) (X : PySem.BadX.BadTxt P K mg nm "at" s1 s2 (He.ga K nm) fI B) (j4 : j < 4)
    (hj : ∀ i x, cls11[i]? = some x → x ∈ (["BadMemory", "BadBeats", "BadWindow", "BadClaim", "BadRow", "Crooked", "BadProgram", "BadWorks", "BadAsks", "BadLog", "BadText"] : List Str) ∧ decide (x = nm) = decide (i = j)) : AtW K (He.ga K nm) j :=
  ⟨I.ex, I.cl, I.xf, X.noN, I.ve, j4, fun i x hx => by rw [I.kit x (hj i x hx).1, (hj i x hx).2]⟩
theorem cls_by {nm : Str} {j : Nat} (h : ((List.range 11).all fun i => match cls11[i]? with
    | some x => decide (x ∈ (["BadMemory", "BadBeats", "BadWindow", "BadClaim", "BadRow", "Crooked", "BadProgram", "BadWorks", "BadAsks", "BadLog", "BadText"] : List Str)) && (decide (x = nm) == decide (i = j))
    | none => true) = true) : ∀ i x, cls11[i]? = some x → x ∈ (["BadMemory", "BadBeats", "BadWindow", "BadClaim", "BadRow", "Crooked", "BadProgram", "BadWorks", "BadAsks", "BadLog", "BadText"] : List Str) ∧ decide (x = nm) = decide (i = j) := fun i x hx => by
  have li : i < 11 := (List.getElem?_eq_some_iff.mp hx).1
  have h1 := List.all_eq_true.mp h i (List.mem_range.mpr li)
  rw [hx] at h1
  simp only [Bool.and_eq_true, decide_eq_true_eq, beq_iff_eq] at h1
  exact h1
section
variable {P : Program} {w : World} {K : PySem.W.Frag} {mg : Str → Option Value} {base : Heap} {H H' : Hp} {v : V} {d : PyData} {wl t : Addr}
theorem atw_prog (T : T w K mg) (PT : ProgT P K mg) : AtW K (He.ga K "BadProgram") 0 := by
  obtain ⟨fI, X⟩ := PT.prog
  exact atwOf T.x_is_BadProgram X (by decide) (cls_by (by decide +kernel))
theorem atw_work (T : T w K mg) (PT : ProgT P K mg) : AtW K (He.ga K "BadWorks") 1 := by
  obtain ⟨fI, X⟩ := PT.work
  exact atwOf T.x_is_BadWorks X (by decide) (cls_by (by decide +kernel))
theorem cellV_ne {c : Addr} {v : V} {xs : List V} : CellV c v ≠ .tup xs ∧ CellV c v ≠ .lst xs := by
  unfold CellV
  exact ⟨(fun z => by cases z), (fun z => by cases z)⟩
theorem sqt_drop {C : List Addr} {a : Addr} {xs : List V} (f : FrzC C H) (h : SqT K H a xs) : SqT K (dropC C H) a xs := by
  rcases h with (h | ⟨o, h⟩) | h
  · exact .inl (.inl (by rw [drop_out (f.nx h (fun oc v z => by cases z))]; exact h))
  · exact .inl (.inr ⟨o, by rw [drop_out (f.nx h (fun oc v z => by injection z with _ z; exact cellV_ne.1 z.symm))]; exact h⟩)
  · exact .inr h
theorem sql_drop {C : List Addr} {a : Addr} {xs : List V} (f : FrzC C H) (h : SqL K H a xs) : SqL K (dropC C H) a xs := by
  rcases h with (h | ⟨o, h⟩) | h
  · exact .inl (.inl (by rw [drop_out (f.nx h (fun oc v z => by cases z))]; exact h))
  · exact .inl (.inr ⟨o, by rw [drop_out (f.nx h (fun oc v z => by injection z with _ z; exact cellV_ne.2 z.symm))]; exact h⟩)
  · exact .inr h
mutual
theorem dp_drop {C : List Addr} (f : FrzC C H) : ∀ {v : V} {d : PyData}, Dp K H v d → Dp K (dropC C H) v d
  | _, _, .non => .non
  | _, _, .bl b => .bl b
  | _, _, .int i => .int i
  | _, _, .str x => .str x
  | _, _, .lst h a => .lst (sql_drop f h) (dpAll_drop' f a)
  | _, _, .tup h a => .tup (sqt_drop f h) (dpAll_drop' f a)
theorem dpAll_drop' {C : List Addr} (f : FrzC C H) : ∀ {vs : List V} {ds : List PyData}, DpAll K H vs ds → DpAll K (dropC C H) vs ds
  | _, _, .nil => .nil
  | _, _, .cons h t => .cons (dp_drop f h) (dpAll_drop' f t)
end
structure DData (K : PySem.W.Frag) (H : Hp) (v : V) (d : PyData) (wl t : Addr) : Prop where
  dp : Dp K H v d
  pl : Pl 61 d
  w : H wl = some (.lst [.ref t])
  t : H t = some (.tup [])
theorem DData.same (D : DData K H v d wl t) (s : Same H H') : DData K H' v d wl t := ⟨dpS s D.dp, D.pl, s _ _ D.w, s _ _ D.t⟩
theorem DData.drop {C : List Addr} (D : DData K H v d wl t) (f : FrzC C H) : DData K (dropC C H) v d wl t := by
  refine ⟨dp_drop f D.dp, D.pl, ?_, ?_⟩
  · rw [drop_out (f.nx D.w (fun oc v z => by cases z))]
    exact D.w
  · rw [drop_out (f.nx D.t (fun oc v z => by cases z))]
    exact D.t
theorem frz_same {C : List Addr} (f : FrzC C H) (s : Same H H') : FrzC C H' := fun c hc => by
  obtain ⟨oc, v, e⟩ := f c hc
  exact ⟨oc, v, s _ _ e⟩
theorem fnAt_same {f : Addr} {F : Clo} (h : FnAt H f F) (s : Same H H') : FnAt H' f F := by
  obtain ⟨xs, D⟩ := h.dfl
  refine ⟨s _ _ h.fn, s _ _ h.code, xs, ?_⟩
  cases D with
  | none e b => exact .none e b
  | one e h b l => exact .one e (s _ _ h) b l
theorem cellsAt_same {F : Clo} {N : List Str} {σ : L2.St} (h : CellsAt H F N σ) (s : Same H H') : CellsAt H' F N σ :=
  ⟨h.len, h.has, h.inj, fun i x v c e1 e2 e3 => by
    obtain ⟨oc, e⟩ := h.val i x v c e1 e2 e3
    exact ⟨oc, s _ _ e⟩, frz_same h.frz s⟩
def DoorClo (P : Program) (w : World) (K : PySem.W.Frag) (mg : Str → Option Value) (base : Heap) (k : Nat) (v : V) (d : PyData) (wl t : Addr) (H : Hp) (f : Addr) : Prop :=
  ∃ (F : Clo) (B : CloB P w K mg base k F), FnAt H f F ∧ CellsAt H F B.N B.σ ∧ ∀ (E : XK) (Q : VK) (H' : Hp), DData K H' v d wl t → Door K d E H' → B.tb E B.σ H' Q
theorem DoorClo.same {k : Nat} {f : Addr} (h : DoorClo P w K mg base k v d wl t H f) (s : Same H H') : DoorClo P w K mg base k v d wl t H' f := by
  obtain ⟨F, B, h1, h2, h3⟩ := h
  exact ⟨F, B, fnAt_same h1 s, cellsAt_same h2 s, h3⟩
def dueZ (d : PyData) : Str := match firstRow d with
  | none => "works"
  | some _ => "program"
def dueI (d : PyData) : Int := match firstRow d with
  | none => 0
  | some i => (i : Int)
def sp_wordD (P : Program) (w : World) (K : PySem.W.Frag) (mg : Str → Option Value) (base : Heap) (k : Nat) : Sp := fun vs H Q _ => ∃ (f : Addr) (v : V) (d : PyData) (wl t : Addr), vs = [.ref f] ∧ DoorClo P w K mg base k v d wl t H f ∧ DData K H v d wl t ∧ ∀ H' p, Same H H' → H' p = some (.tup [.str (dueZ d), .int (dueI d)]) → Q (.ref p) H'
theorem ok_wordD (T : T w K mg) (PT : ProgT P K mg) (k : Nat) : FnR P w K mg base CX0 (k + 2) (He.ga K "_law_word") (sp_wordD P w K mg base k) := by
  refine (ok_word_clo (P := P) (base := base) T k).imp (fun vs H Q E h => ?_)
  obtain ⟨f, v, d, wl, t, rfl, ⟨F, B, h1, h2, h3⟩, D, q⟩ := h
  have ap := atw_prog T PT
  have aw := atw_work T PT
  obtain ⟨fI, XP⟩ := PT.prog
  obtain ⟨fI2, XW⟩ := PT.work
  refine ⟨f, F, B, rfl, h1, fun EW hEW => ⟨h1, h2, h3 _ _ _ (D.drop h2.frz) ⟨fun hn => ?_, fun i hi => ?_⟩⟩⟩
  all_goals
    intro H' de hde s hC
    have sb : Same H (backC F.C H H') := fun b o e => by
      by_cases hb : b ∈ F.C
      · rw [back_in hb]; exact e
      · rw [back_out hb]; exact s _ _ (by rw [drop_out hb]; exact e)
    have nd : de ∉ F.C := fun z => by rw [hC de z] at hde; cases hde
  · refine hEW (He.ga K "BadWorks") de 1 (.int 0) "works" (backC F.C H H') aw XW.te rfl (by rw [back_out nd]; exact hde) (fun H'' p s2 hp => q H'' p (sb.trans s2) ?_)
    unfold dueZ dueI
    rw [hn]
    exact hp
  · refine hEW (He.ga K "BadProgram") de 0 (.int (i : Int)) "program" (backC F.C H H') ap XP.te rfl (by rw [back_out nd]; exact hde) (fun H'' p s2 hp => q H'' p (sb.trans s2) ?_)
    unfold dueZ dueI
    rw [hi]
    exact hp
def sp_l_are (P : Program) (w : World) (K : PySem.W.Frag) (mg : Str → Option Value) (base : Heap) (k : Nat) : Sp := fun vs H Q _ => ∃ (l p : Addr) (fs : List Addr) (v : V) (d : PyData), vs = [.ref l, .ref p] ∧ H l = some (.lst (fs.map V.ref)) ∧ H p = some (.tup [.str (dueZ d), .int (dueI d)]) ∧
  (∀ f ∈ fs, ∃ wl t, DoorClo P w K mg base k v d wl t H f ∧ DData K H v d wl t) ∧ ∀ H', Same H H' → Q (.bl true) H'
theorem shaped_due (d : PyData) : SeqAt.shaped (.tuple [.str (dueZ d), .int (dueI d)]) = true := by
  have : PyData.canLay0 (.str (dueZ d)) = true := by
    unfold dueZ
    cases firstRow d with
    | none => show PyData.canLay0 (.str "works") = true; decide +kernel
    | some i => show PyData.canLay0 (.str "program") = true; decide +kernel
  show ((PyData.canLay0 (.str (dueZ d)) && (true && true)) && decide (1 ≤ 64)) = true
  rw [this]
  rfl
theorem ok_l_are (T : T w K mg) (PT : ProgT P K mg) (k : Nat) : FnR P w K mg base CX0 (k + 3) (He.ga K "_law_are") (sp_l_are P w K mg base k) := by
  have F_l_word : FnR P w K mg base CX0 (k + 2) _ _ := ok_wordD T PT k
  obtain ⟨fd, F⟩ := T.f_l_are
  refine F.r sc_l_are (fun _ _ _ _ _ _ us hl => match us, hl with | [_, _], _ => rfl) (fun vs H Q E h => ?_) (fun cdv A outer s H vs Q E hr h => ?_)
  · obtain ⟨_, _, _, _, _, rfl, _⟩ := h
    rfl
  · obtain ⟨l, p, fs, v, d, rfl, hl, hp, hf, q⟩ := h
    have hu := hr.units
    refine ⟨_, (pss_one (ps_ret (pe_cmpR (op_eqD hu) (pe_lc (own := [("_law_work", 2)]) (g := gName 2) (tt := tTest (tOp (rNeD K) (tCallR (sp_wordD P w K mg base k) (tCons (tVar 2) tNil)) (tVar 1))) (te := tVar 2) rfl sc_l_are.nd (pi_list (pv 0)) (blkOk_by (N := ["_law_works", "_law_due", "_law_work"]) (sc := defScope s_l_are) (by decide +kernel)) (fun _ _ _ _ _ => pg_name (i := 2) sc_l_are.nd rfl (Or.inl rfl)) (fun _ _ _ _ _ => pts_one (pt_cmpR (op_neD hu) (pe_callR F_l_word (hr.mono (Nat.le_refl _)) rfl T.g_l_word T.k_l_word (pa_cons (pv 2) pa_nil)) (pv 1) (nomark _))) (fun _ _ _ _ _ => pv 2)) (pe_lst pa_nil) (nomark _)))), ?_⟩
    refine ⟨_, rfl, l, rfl, ⟨_, SqL.of hl⟩, fun R nR => ?_⟩
    refine lc_list (K := K) (a := l) (xs := fs.map V.ref) (fun i H5 => H5 R = some (.lst []) ∧ Same H H5) ⟨upd_same, Same.new (Same.refl _) nR⟩ (fun i H5 _ ⟨_, s5⟩ => SqL.of (s5 _ _ hl)) ?_ ?_
    · rintro i x H5 hx ⟨hR, s5⟩
      rw [List.getElem?_map] at hx
      cases hi : fs[i]? with
      | none => rw [hi] at hx; cases hx
      | some f =>
        rw [hi] at hx
        cases hx
        refine ⟨by kernel_rfl, ?_⟩
        obtain ⟨wl, t, hd, D⟩ := hf f (List.mem_of_getElem? hi)
        refine ⟨.ref f, by kernel_rfl, f, v, d, wl, t, rfl, hd.same s5, D.same s5, fun H6 p6 s6 hp6 => ?_⟩
        have s56 := s5.trans s6
        refine ⟨.ref p, by kernel_rfl, .tuple [.str (dueZ d), .int (dueI d)], .tuple [.str (dueZ d), .int (dueI d)], .tup (SqT.of hp6) (.cons (.str _) (.cons (.int _) .nil)), .tup (SqT.of (s56 _ _ hp)) (.cons (.str _) (.cons (.int _) .nil)), shaped_due d, shaped_due d, _, rfl, ?_⟩
        rw [eqv_self (shaped_due d)]
        exact iteF ⟨s6 _ _ hR, s56⟩
    · rintro H5 ⟨hR, s5⟩
      refine ⟨by show 0 ≤ sizeLine; decide, fun e1 ne1 => ?_⟩
      have s7 : Same H5 (upd H5 e1 (.lst [])) := Same.new (Same.refl _) ne1
      refine ⟨.list (pyInts []), .list (pyInts []), .lst (SqL.of (s7 _ _ hR)) .nil, .lst (SqL.of upd_same) .nil, shaped_ints [], shaped_ints [], ?_⟩
      rw [eqv_nil]
      exact q _ (s5.trans s7)
end
end SB

set_option Elab.async false
set_option linter.all false
set_option maxRecDepth 100000
set_option maxHeartbeats 2000000
namespace SB
open PySem PySem.Spec PyProof.Rows L2 LamX StX CloX
def tD (K : PySem.W.Frag) : Addr := (He.cT K ("_law_doors", none)).2
def cD (K : PySem.W.Frag) : Addr := (He.cT K ("_law_doors", none)).1
def tW (K : PySem.W.Frag) : Addr := (He.cT K ("_law_windows", none)).2
def cW (K : PySem.W.Frag) : Addr := (He.cT K ("_law_windows", none)).1
def tL (K : PySem.W.Frag) : Addr := (He.cT K ("law", none)).2
def cL (K : PySem.W.Frag) : Addr := (He.cT K ("law", none)).1
def qD : Str := (PyProof.Rows.envOfC "_law_doors" (defScope s_l_doors) 0 0 .none).qual ++ "<lambda>"
def qW : Str := (PyProof.Rows.envOfC "_law_windows" (defScope s_l_windows) 0 0 .none).qual ++ "<lambda>"
def qL : Str := (PyProof.Rows.envOfC "law" (defScope s_law) 0 0 .none).qual ++ "<lambda>"
def tz (K : PySem.W.Frag) : List (Addr × Str) := [(tD K, qD), (tW K, qW), (tL K, qL)]
theorem nt_lstC {xs : List V} : ∀ ps, (HO.lst xs) ≠ .tbl ps := fun ps z => by cases z
section
variable {P : Program} {w : World} {K : PySem.W.Frag} {mg : Str → Option Value} {base : Heap} {H H' : Hp}
theorem doorOf {k : Nat} {v : V} {d : PyData} {wl t f : Addr} {F : Clo} (fa : FnAt H f F) (N : List Str) (σ : L2.St) (tb : XK → TE) (sc : CloS N F.scope)
    (rule : ∀ (A : Around) (outer : List Env) (s : Shared) (H : Hp) (E : XK) (f : Addr), Room k (A.deeper (cloEnv F s.heap.objs.size f)) → PE (cloCx P w K mg base N A outer s H E F f) F.body (tb E))
    (cells : CellsAt H F N σ) (rd : ∀ (E : XK) (Q : VK) (H' : Hp), DData K H' v d wl t → Door K d E H' → tb E σ H' Q) : DoorClo P w K mg base k v d wl t H f :=
  ⟨F, ⟨N, σ, tb, sc, rule⟩, fa, cells, rd⟩
theorem tz_nd (T : T w K mg) : tD K ≠ tW K ∧ tD K ≠ tL K ∧ tW K ≠ tL K := by
  have h : ([tD K, tW K, tL K] : List Addr).Nodup := T.x_tabs
  simp only [List.nodup_cons, List.mem_cons, List.not_mem_nil, or_false, not_or, not_false_eq_true, List.nodup_nil, and_true] at h
  exact ⟨h.1.1, h.1.2, h.2⟩
theorem hu_D (T : T w K mg) : ∀ p ∈ tz K, p.1 = tD K → p.2 = qD := fun p hp e => by
  obtain ⟨h1, h2, h3⟩ := tz_nd T
  unfold tz at hp
  simp only [List.mem_cons, List.not_mem_nil, or_false] at hp
  rcases hp with rfl | rfl | rfl
  · rfl
  · exact absurd e.symm h1
  · exact absurd e.symm h2
theorem hu_W (T : T w K mg) : ∀ p ∈ tz K, p.1 = tW K → p.2 = qW := fun p hp e => by
  obtain ⟨h1, h2, h3⟩ := tz_nd T
  unfold tz at hp
  simp only [List.mem_cons, List.not_mem_nil, or_false] at hp
  rcases hp with rfl | rfl | rfl
  · exact absurd e h1
  · rfl
  · exact absurd e.symm h3
theorem hu_L (T : T w K mg) : ∀ p ∈ tz K, p.1 = tL K → p.2 = qL := fun p hp e => by
  obtain ⟨h1, h2, h3⟩ := tz_nd T
  unfold tz at hp
  simp only [List.mem_cons, List.not_mem_nil, or_false] at hp
  rcases hp with rfl | rfl | rfl
  · exact absurd e h2
  · exact absurd e h3
  · rfl
def sp_l_doors (P : Program) (w : World) (K : PySem.W.Frag) (mg : Str → Option Value) (base : Heap) : Sp := fun vs H Q _ => ∃ (v : V) (d : PyData) (wl t : Addr) (m as_ : V), vs = [v, .ref wl, m, as_] ∧ Tabs (tz K) H ∧ ∀ (H' : Hp) (R : Addr) (fs : List Addr), H' R = some (.lst (fs.map V.ref)) → fs.length ≤ 10 → (∀ f ∈ fs, DoorClo P w K mg base 9 v d wl t H' f) → ExtN H H' → Tabs (tz K) H' → Q (.ref R) H'
theorem ok_l_doors (T : T w K mg) (PT : ProgT P K mg) (TB : TabB base mg (cD K) (tD K)) : FnR P w K mg base CX0 2 (He.ga K "_law_doors") (sp_l_doors P w K mg base) := by
  have F_Hall : FnR P w K mg base (L2.CX P w) 6 _ _ := ok_door_Hall_init T PT
  have F_run : FnR P w K mg base (L2.CX P w) 8 _ _ := ok_door_run T PT
  have F_torns : FnR P w K mg base (L2.CX P w) 6 _ _ := ok_door_torns T PT
  have F_sights : FnR P w K mg base (L2.CX P w) 9 _ _ := ok_door_sights T PT
  have F_worths : FnR P w K mg base (L2.CX P w) 9 _ _ := ok_door_worths T PT
  have F_judged : FnR P w K mg base (L2.CX P w) 8 _ _ := ok_door_judged T PT
  have F_written : FnR P w K mg base (L2.CX P w) 6 _ _ := ok_door_written T PT
  obtain ⟨fd, F⟩ := T.f_l_doors
  refine makes (p := ("_law_doors", none)) ["_law_program_here", "_law_works", "_law_memory", "_law_asks"] F rfl sc_l_doors (by decide +kernel) (fun _ _ _ _ _ _ us hl => match us, hl with | [_, _, _, _], _ => rfl) (fun vs H Q E h => ?_) (fun A outer s H vs Q E hr h => ?_)
  · obtain ⟨_, _, _, _, _, _, rfl, _⟩ := h
    rfl
  · obtain ⟨v, d, wl, t, m, as_, rfl, tb0, q⟩ := h
    refine ⟨_, (psr_cons (ps_set (i := 4) sc_l_doors.nd rfl (Or.inl rfl) (pe_lst (pa_cons (pe_clo0 (T := tz K) (P := tD K) (c := cD K) TB rfl (by exact List.mem_cons_self) (by exact hu_D T) (free_by (by show freeB _ (defScope s_l_doors) = true; decide +kernel)) rfl (fun _ _ _ _ _ _ => rfl)) (pa_cons (pe_clo1 (x := "_law_a") (T := tz K) (P := tD K) (c := cD K) TB rfl (by exact List.mem_cons_self) (by exact hu_D T) (free_by (by show freeB _ (defScope s_l_doors) = true; decide +kernel)) rfl rfl (by decide +kernel) (fun _ _ _ _ _ _ _ => ⟨_, rfl, fun _ => rfl⟩)) pa_nil)))) 
  (psr_cons (ps_set (i := 4) sc_l_doors.nd rfl (Or.inl rfl) (pe_op op_cat (pv 4) (pe_lst (pa_cons (pe_clo1 (x := "_law_b") (T := tz K) (P := tD K) (c := cD K) TB rfl (by exact List.mem_cons_self) (by exact hu_D T) (free_by (by show freeB _ (defScope s_l_doors) = true; decide +kernel)) rfl rfl (by decide +kernel) (fun _ _ _ _ _ _ _ => ⟨_, rfl, fun _ => rfl⟩)) pa_nil)))) 
  (psr_cons (ps_set (i := 4) sc_l_doors.nd rfl (Or.inl rfl) (pe_op op_cat (pv 4) (pe_lst (pa_cons (pe_clo1 (x := "_law_c") (T := tz K) (P := tD K) (c := cD K) TB rfl (by exact List.mem_cons_self) (by exact hu_D T) (free_by (by show freeB _ (defScope s_l_doors) = true; decide +kernel)) rfl rfl (by decide +kernel) (fun _ _ _ _ _ _ _ => ⟨_, rfl, fun _ => rfl⟩)) pa_nil)))) 
  (psr_cons (ps_set (i := 4) sc_l_doors.nd rfl (Or.inl rfl) (pe_op op_cat (pv 4) (pe_lst (pa_cons (pe_clo1 (x := "_law_e") (T := tz K) (P := tD K) (c := cD K) TB rfl (by exact List.mem_cons_self) (by exact hu_D T) (free_by (by show freeB _ (defScope s_l_doors) = true; decide +kernel)) rfl rfl (by decide +kernel) (fun _ _ _ _ _ _ _ => ⟨_, rfl, fun _ => rfl⟩)) pa_nil)))) 
  (psr_cons (ps_set (i := 4) sc_l_doors.nd rfl (Or.inl rfl) (pe_op op_cat (pv 4) (pe_lst (pa_cons (pe_clo1 (x := "_law_f") (T := tz K) (P := tD K) (c := cD K) TB rfl (by exact List.mem_cons_self) (by exact hu_D T) (free_by (by show freeB _ (defScope s_l_doors) = true; decide +kernel)) rfl rfl (by decide +kernel) (fun _ _ _ _ _ _ _ => ⟨_, rfl, fun _ => rfl⟩)) pa_nil)))) 
  (psr_ret (pe_op op_cat (pv 4) (pe_lst (pa_cons (pe_clo1 (x := "_law_g") (T := tz K) (P := tD K) (c := cD K) TB rfl (by exact List.mem_cons_self) (by exact hu_D T) (free_by (by show freeB _ (defScope s_l_doors) = true; decide +kernel)) rfl rfl (by decide +kernel) (fun _ _ _ _ _ _ _ => ⟨_, rfl, fun _ => rfl⟩)) pa_nil))))))))), ?_⟩
    have x0 : ExtN H H := ExtN.refl _
    refine ⟨tb0, fun f0 c0 dV0 G1 eN1 _ tb1 _ fa0 => ?_⟩
    have x1 := x0.trans eN1
    refine ⟨tb1, fun f1 c1 dV1 G2 eN2 _ tb2 _ fa1 => ?_⟩
    have x2 := x1.trans eN2
    have fa0 := fnAt_ext fa0 eN2
    refine ⟨by show 2 ≤ sizeLine; decide, fun l3 nl3 => ?_⟩
    generalize hG : upd G2 l3 _ = G3
    have s3 : Same G2 G3 := by rw [← hG]; exact Same.new (Same.refl _) nl3
    have hl3 : G3 l3 = some (.lst [.ref f0, .ref f1]) := by rw [← hG]; exact upd_same
    clear hG
    have x3 := x2.trans (ExtN.of s3)
    have tb3 := Tabs.ext tb2 s3
    have fa0 := fnAt_same fa0 s3
    have fa1 := fnAt_same fa1 s3
    refine ⟨_, rfl, ?_⟩
    refine ⟨tb3, fun f2 c2 dV2 G4 eN4 _ tb4 _ fa2 => ?_⟩
    have x4 := x3.trans eN4
    have fa0 := fnAt_ext fa0 eN4
    have fa1 := fnAt_ext fa1 eN4
    have hl3 := eN4 _ _ hl3 nt_lstC
    refine ⟨by show 1 ≤ sizeLine; decide, fun l5 nl5 => ?_⟩
    generalize hG : upd G4 l5 _ = G5
    have s5 : Same G4 G5 := by rw [← hG]; exact Same.new (Same.refl _) nl5
    have hl5 : G5 l5 = some (.lst [.ref f2]) := by rw [← hG]; exact upd_same
    clear hG
    have x5 := x4.trans (ExtN.of s5)
    have tb5 := Tabs.ext tb4 s5
    have fa0 := fnAt_same fa0 s5
    have fa1 := fnAt_same fa1 s5
    have fa2 := fnAt_same fa2 s5
    have hl3 := s5 _ _ hl3
    refine ⟨l3, l5, _, _, rfl, rfl, hl3, hl5, by show 2 + 1 ≤ sizeLine; decide, fun l6 nl6 => ?_⟩
    generalize hG : upd G5 l6 _ = G6
    have s6 : Same G5 G6 := by rw [← hG]; exact Same.new (Same.refl _) nl6
    have hl6 : G6 l6 = some (.lst [.ref f0, .ref f1, .ref f2]) := by rw [← hG]; exact upd_same
    clear hG
    have x6 := x5.trans (ExtN.of s6)
    have tb6 := Tabs.ext tb5 s6
    have fa0 := fnAt_same fa0 s6
    have fa1 := fnAt_same fa1 s6
    have fa2 := fnAt_same fa2 s6
    refine ⟨_, rfl, ?_⟩
    refine ⟨tb6, fun f3 c3 dV3 G7 eN7 _ tb7 _ fa3 => ?_⟩
    have x7 := x6.trans eN7
    have fa0 := fnAt_ext fa0 eN7
    have fa1 := fnAt_ext fa1 eN7
    have fa2 := fnAt_ext fa2 eN7
    have hl6 := eN7 _ _ hl6 nt_lstC
    refine ⟨by show 1 ≤ sizeLine; decide, fun l8 nl8 => ?_⟩
    generalize hG : upd G7 l8 _ = G8
    have s8 : Same G7 G8 := by rw [← hG]; exact Same.new (Same.refl _) nl8
    have hl8 : G8 l8 = some (.lst [.ref f3]) := by rw [← hG]; exact upd_same
    clear hG
    have x8 := x7.trans (ExtN.of s8)
    have tb8 := Tabs.ext tb7 s8
    have fa0 := fnAt_same fa0 s8
    have fa1 := fnAt_same fa1 s8
    have fa2 := fnAt_same fa2 s8
    have fa3 := fnAt_same fa3 s8
    have hl6 := s8 _ _ hl6
    refine ⟨l6, l8, _, _, rfl, rfl, hl6, hl8, by show 3 + 1 ≤ sizeLine; decide, fun l9 nl9 => ?_⟩
    generalize hG : upd G8 l9 _ = G9
    have s9 : Same G8 G9 := by rw [← hG]; exact Same.new (Same.refl _) nl9
    have hl9 : G9 l9 = some (.lst [.ref f0, .ref f1, .ref f2, .ref f3]) := by rw [← hG]; exact upd_same
    clear hG
    have x9 := x8.trans (ExtN.of s9)
    have tb9 := Tabs.ext tb8 s9
    have fa0 := fnAt_same fa0 s9
    have fa1 := fnAt_same fa1 s9
    have fa2 := fnAt_same fa2 s9
    have fa3 := fnAt_same fa3 s9
    refine ⟨_, rfl, ?_⟩
    refine ⟨tb9, fun f4 c4 dV4 G10 eN10 _ tb10 _ fa4 => ?_⟩
    have x10 := x9.trans eN10
    have fa0 := fnAt_ext fa0 eN10
    have fa1 := fnAt_ext fa1 eN10
    have fa2 := fnAt_ext fa2 eN10
    have fa3 := fnAt_ext fa3 eN10
    have hl9 := eN10 _ _ hl9 nt_lstC
    refine ⟨by show 1 ≤ sizeLine; decide, fun l11 nl11 => ?_⟩
    generalize hG : upd G10 l11 _ = G11
    have s11 : Same G10 G11 := by rw [← hG]; exact Same.new (Same.refl _) nl11
    have hl11 : G11 l11 = some (.lst [.ref f4]) := by rw [← hG]; exact upd_same
    clear hG
    have x11 := x10.trans (ExtN.of s11)
    have tb11 := Tabs.ext tb10 s11
    have fa0 := fnAt_same fa0 s11
    have fa1 := fnAt_same fa1 s11
    have fa2 := fnAt_same fa2 s11
    have fa3 := fnAt_same fa3 s11
    have fa4 := fnAt_same fa4 s11
    have hl9 := s11 _ _ hl9
    refine ⟨l9, l11, _, _, rfl, rfl, hl9, hl11, by show 4 + 1 ≤ sizeLine; decide, fun l12 nl12 => ?_⟩
    generalize hG : upd G11 l12 _ = G12
    have s12 : Same G11 G12 := by rw [← hG]; exact Same.new (Same.refl _) nl12
    have hl12 : G12 l12 = some (.lst [.ref f0, .ref f1, .ref f2, .ref f3, .ref f4]) := by rw [← hG]; exact upd_same
    clear hG
    have x12 := x11.trans (ExtN.of s12)
    have tb12 := Tabs.ext tb11 s12
    have fa0 := fnAt_same fa0 s12
    have fa1 := fnAt_same fa1 s12
    have fa2 := fnAt_same fa2 s12
    have fa3 := fnAt_same fa3 s12
    have fa4 := fnAt_same fa4 s12
    refine ⟨_, rfl, ?_⟩
    refine ⟨tb12, fun f5 c5 dV5 G13 eN13 _ tb13 _ fa5 => ?_⟩
    have x13 := x12.trans eN13
    have fa0 := fnAt_ext fa0 eN13
    have fa1 := fnAt_ext fa1 eN13
    have fa2 := fnAt_ext fa2 eN13
    have fa3 := fnAt_ext fa3 eN13
    have fa4 := fnAt_ext fa4 eN13
    have hl12 := eN13 _ _ hl12 nt_lstC
    refine ⟨by show 1 ≤ sizeLine; decide, fun l14 nl14 => ?_⟩
    generalize hG : upd G13 l14 _ = G14
    have s14 : Same G13 G14 := by rw [← hG]; exact Same.new (Same.refl _) nl14
    have hl14 : G14 l14 = some (.lst [.ref f5]) := by rw [← hG]; exact upd_same
    clear hG
    have x14 := x13.trans (ExtN.of s14)
    have tb14 := Tabs.ext tb13 s14
    have fa0 := fnAt_same fa0 s14
    have fa1 := fnAt_same fa1 s14
    have fa2 := fnAt_same fa2 s14
    have fa3 := fnAt_same fa3 s14
    have fa4 := fnAt_same fa4 s14
    have fa5 := fnAt_same fa5 s14
    have hl12 := s14 _ _ hl12
    refine ⟨l12, l14, _, _, rfl, rfl, hl12, hl14, by show 5 + 1 ≤ sizeLine; decide, fun l15 nl15 => ?_⟩
    generalize hG : upd G14 l15 _ = G15
    have s15 : Same G14 G15 := by rw [← hG]; exact Same.new (Same.refl _) nl15
    have hl15 : G15 l15 = some (.lst [.ref f0, .ref f1, .ref f2, .ref f3, .ref f4, .ref f5]) := by rw [← hG]; exact upd_same
    clear hG
    have x15 := x14.trans (ExtN.of s15)
    have tb15 := Tabs.ext tb14 s15
    have fa0 := fnAt_same fa0 s15
    have fa1 := fnAt_same fa1 s15
    have fa2 := fnAt_same fa2 s15
    have fa3 := fnAt_same fa3 s15
    have fa4 := fnAt_same fa4 s15
    have fa5 := fnAt_same fa5 s15
    refine ⟨_, rfl, ?_⟩
    refine ⟨tb15, fun f6 c6 dV6 G16 eN16 _ tb16 _ fa6 => ?_⟩
    have x16 := x15.trans eN16
    have fa0 := fnAt_ext fa0 eN16
    have fa1 := fnAt_ext fa1 eN16
    have fa2 := fnAt_ext fa2 eN16
    have fa3 := fnAt_ext fa3 eN16
    have fa4 := fnAt_ext fa4 eN16
    have fa5 := fnAt_ext fa5 eN16
    have hl15 := eN16 _ _ hl15 nt_lstC
    refine ⟨by show 1 ≤ sizeLine; decide, fun l17 nl17 => ?_⟩
    generalize hG : upd G16 l17 _ = G17
    have s17 : Same G16 G17 := by rw [← hG]; exact Same.new (Same.refl _) nl17
    have hl17 : G17 l17 = some (.lst [.ref f6]) := by rw [← hG]; exact upd_same
    clear hG
    have x17 := x16.trans (ExtN.of s17)
    have tb17 := Tabs.ext tb16 s17
    have fa0 := fnAt_same fa0 s17
    have fa1 := fnAt_same fa1 s17
    have fa2 := fnAt_same fa2 s17
    have fa3 := fnAt_same fa3 s17
    have fa4 := fnAt_same fa4 s17
    have fa5 := fnAt_same fa5 s17
    have fa6 := fnAt_same fa6 s17
    have hl15 := s17 _ _ hl15
    refine ⟨l15, l17, _, _, rfl, rfl, hl15, hl17, by show 6 + 1 ≤ sizeLine; decide, fun l18 nl18 => ?_⟩
    generalize hG : upd G17 l18 _ = G18
    have s18 : Same G17 G18 := by rw [← hG]; exact Same.new (Same.refl _) nl18
    have hl18 : G18 l18 = some (.lst [.ref f0, .ref f1, .ref f2, .ref f3, .ref f4, .ref f5, .ref f6]) := by rw [← hG]; exact upd_same
    clear hG
    have x18 := x17.trans (ExtN.of s18)
    have tb18 := Tabs.ext tb17 s18
    have fa0 := fnAt_same fa0 s18
    have fa1 := fnAt_same fa1 s18
    have fa2 := fnAt_same fa2 s18
    have fa3 := fnAt_same fa3 s18
    have fa4 := fnAt_same fa4 s18
    have fa5 := fnAt_same fa5 s18
    have fa6 := fnAt_same fa6 s18
    refine ⟨fun y hy => ?_, fun HN Sh => ?_⟩
    · simp only [List.mem_cons, List.not_mem_nil, or_false] at hy
      rcases hy with rfl | rfl | rfl | rfl
      · exact ⟨0, _, rfl, rfl⟩
      · exact ⟨1, _, rfl, rfl⟩
      · exact ⟨2, _, rfl, rfl⟩
      · exact ⟨3, _, rfl, rfl⟩
    have sN : Same G18 HN := Sh.ext
    have hσ : ∀ (i : Nat) (u : V), ([some v, some (.ref wl), some (m), some (as_), none] : L2.St)[i]? = some (some u) → ([some v, some (.ref wl), some (m), some (as_), some (.ref l15)] : L2.St)[i]? = some (some u) := fun i u h => by
      match i, h with
      | 0, h => exact h
      | 1, h => exact h
      | 2, h => exact h
      | 3, h => exact h
      | 4, h => cases h
      | _ + 5, h => cases h
    have fa0' := fnAt_same fa0 sN
    have fa1' := fnAt_same fa1 sN
    have fa2' := fnAt_same fa2 sN
    have fa3' := fnAt_same fa3 sN
    have fa4' := fnAt_same fa4 sN
    have fa5' := fnAt_same fa5 sN
    have fa6' := fnAt_same fa6 sN
    have dc0 : DoorClo P w K mg base 9 v d wl t HN f0 := doorOf fa0' ["_law_program_here", "_law_works", "_law_memory", "_law_asks", "_law_found"] [some v, some (.ref wl), some (m), some (as_), none] (fun E => tMakeR (He.ga K "Hall") (sp_doorH K) E (tCons (tVar 0) (tCons (tVar 1) (tCons (tVar 2) (tCons (tVar 3) tNil))))) (cloS_by (by kernel_rfl)) (fun A' outer' s' H' E f' hr' => pe_makeR (E := E) T.mk_Hall F_Hall (hr'.mono (by decide)) rfl T.g_Hall (passes_call (takes_of rfl rfl rfl rfl) (fun _ _ _ _ h => h)) (pa_cons (pv 0) (pa_cons (pv 1) (pa_cons (pv 2) (pa_cons (pv 3) pa_nil))))) (cells_at Sh rfl (ins_by (by kernel_rfl)) rfl hσ) (fun E Q H' D dr => by
      refine ⟨_, rfl, _, rfl, _, rfl, _, rfl, fun hh dh nh ndh neh => ?_⟩
      have s1 : Same H' (upd (upd H' dh (.own hh)) hh (.ins (He.ga K "Hall") dh [])) := fun b o e => by
        rw [upd_ne (ne_of_none e nh), upd_ne (ne_of_none e ndh)]
        exact e
      have D1 := D.same s1
      exact ⟨hh, _, rfl, v, d, wl, t, [_, _], rfl, rfl, D1.dp, D1.pl, D1.w, D1.t, dr.same s1⟩)
    have dc1 : DoorClo P w K mg base 9 v d wl t HN f1 := doorOf fa1' ["_law_program_here", "_law_works", "_law_memory", "_law_asks", "_law_found"] [some v, some (.ref wl), some (m), some (as_), none] (fun E => tCallX (sp_door K 3) E (tCons (tVar 0) (tCons (tVar 1) (tCons (tVar 2) (tCons (tVar 3) (tCons (tUn (rU fun i => .int (-i)) (tC (.int 1))) tNil)))))) (cloS_by (by kernel_rfl)) (fun A' outer' s' H' E f' hr' => pe_callX (E := E) F_run (hr'.mono (by decide)) rfl T.g_run T.k_run (passes_call (takes_of rfl rfl rfl rfl) (fun _ _ _ _ h => h)) (pa_cons (pv 0) (pa_cons (pv 1) (pa_cons (pv 2) (pa_cons (pv 3) (pa_cons (pe_un un_neg pe_int) pa_nil)))))) (cells_at Sh rfl (ins_by (by kernel_rfl)) rfl hσ) (fun E Q H' D dr => by
      exact ⟨_, rfl, _, rfl, _, rfl, _, rfl, 1, rfl, v, d, wl, t, [_, _, _], rfl, rfl, D.dp, D.pl, D.w, D.t, dr⟩)
    have dc2 : DoorClo P w K mg base 9 v d wl t HN f2 := doorOf fa2' ["_law_program_here", "_law_works", "_law_memory", "_law_asks", "_law_found"] [some v, some (.ref wl), some (m), some (as_), none] (fun E => tCallX (sp_door K 3) E (tCons (tVar 0) (tCons (tVar 1) (tCons (tVar 2) (tCons (tVar 3) (tCons (tUn (rU fun i => .int (-i)) (tC (.int 1))) tNil)))))) (cloS_by (by kernel_rfl)) (fun A' outer' s' H' E f' hr' => pe_callX (E := E) F_torns (hr'.mono (by decide)) rfl T.g_torns T.k_torns (passes_call (takes_of rfl rfl rfl rfl) (fun _ _ _ _ h => h)) (pa_cons (pv 0) (pa_cons (pv 1) (pa_cons (pv 2) (pa_cons (pv 3) (pa_cons (pe_un un_neg pe_int) pa_nil)))))) (cells_at Sh rfl (ins_by (by kernel_rfl)) rfl hσ) (fun E Q H' D dr => by
      exact ⟨_, rfl, _, rfl, _, rfl, _, rfl, 1, rfl, v, d, wl, t, [_, _, _], rfl, rfl, D.dp, D.pl, D.w, D.t, dr⟩)
    have dc3 : DoorClo P w K mg base 9 v d wl t HN f3 := doorOf fa3' ["_law_program_here", "_law_works", "_law_memory", "_law_asks", "_law_found"] [some v, some (.ref wl), some (m), some (as_), none] (fun E => tCallX (sp_door K 3) E (tCons (tVar 0) (tCons (tVar 1) (tCons (tVar 2) (tCons (tVar 3) (tCons (tUn (rU fun i => .int (-i)) (tC (.int 1))) tNil)))))) (cloS_by (by kernel_rfl)) (fun A' outer' s' H' E f' hr' => pe_callX (E := E) F_sights (hr'.mono (by decide)) rfl T.g_sights T.k_sights (passes_call (takes_of rfl rfl rfl rfl) (fun _ _ _ _ h => h)) (pa_cons (pv 0) (pa_cons (pv 1) (pa_cons (pv 2) (pa_cons (pv 3) (pa_cons (pe_un un_neg pe_int) pa_nil)))))) (cells_at Sh rfl (ins_by (by kernel_rfl)) rfl hσ) (fun E Q H' D dr => by
      exact ⟨_, rfl, _, rfl, _, rfl, _, rfl, 1, rfl, v, d, wl, t, [_, _, _], rfl, rfl, D.dp, D.pl, D.w, D.t, dr⟩)
    have dc4 : DoorClo P w K mg base 9 v d wl t HN f4 := doorOf fa4' ["_law_program_here", "_law_works", "_law_memory", "_law_asks", "_law_found"] [some v, some (.ref wl), some (m), some (as_), none] (fun E => tCallX (sp_door K 4) E (tCons (tVar 0) (tCons (tVar 1) (tCons (tVar 2) (tCons (tVar 3) (tCons (tUn (rU fun i => .int (-i)) (tC (.int 1))) (tCons (tUn (rU fun i => .int (-i)) (tC (.int 1))) tNil))))))) (cloS_by (by kernel_rfl)) (fun A' outer' s' H' E f' hr' => pe_callX (E := E) F_worths (hr'.mono (by decide)) rfl T.g_worths T.k_worths (passes_call (takes_of rfl rfl rfl rfl) (fun _ _ _ _ h => h)) (pa_cons (pv 0) (pa_cons (pv 1) (pa_cons (pv 2) (pa_cons (pv 3) (pa_cons (pe_un un_neg pe_int) (pa_cons (pe_un un_neg pe_int) pa_nil))))))) (cells_at Sh rfl (ins_by (by kernel_rfl)) rfl hσ) (fun E Q H' D dr => by
      exact ⟨_, rfl, _, rfl, _, rfl, _, rfl, 1, rfl, 1, rfl, v, d, wl, t, [_, _, _, _], rfl, rfl, D.dp, D.pl, D.w, D.t, dr⟩)
    have dc5 : DoorClo P w K mg base 9 v d wl t HN f5 := doorOf fa5' ["_law_program_here", "_law_works", "_law_memory", "_law_asks", "_law_found"] [some v, some (.ref wl), some (m), some (as_), none] (fun E => tCallX (sp_door K 3) E (tCons (tVar 0) (tCons (tVar 1) (tCons (tVar 2) (tCons (tVar 3) (tCons (tLst (tCons (tTup tNil) tNil)) tNil)))))) (cloS_by (by kernel_rfl)) (fun A' outer' s' H' E f' hr' => pe_callX (E := E) F_judged (hr'.mono (by decide)) rfl T.g_judged T.k_judged (passes_call (takes_of rfl rfl rfl rfl) (fun _ _ _ _ h => h)) (pa_cons (pv 0) (pa_cons (pv 1) (pa_cons (pv 2) (pa_cons (pv 3) (pa_cons (pe_lst (pa_cons (pe_tup pa_nil) pa_nil)) pa_nil)))))) (cells_at Sh rfl (ins_by (by kernel_rfl)) rfl hσ) (fun E Q H' D dr => by
      refine ⟨_, rfl, _, rfl, _, rfl, _, rfl, by show 0 ≤ sizeLine; decide, fun t0 nt0 => ?_⟩
      refine ⟨by show 1 ≤ sizeLine; decide, fun l0 nl0 => ?_⟩
      have D1 := D.same (show Same H' (upd (upd H' t0 (.tup [])) l0 (.lst [.ref t0])) from (Same.new (Same.refl _) nt0).trans (Same.new (Same.refl _) nl0))
      have dr1 := dr.same (show Same H' (upd (upd H' t0 (.tup [])) l0 (.lst [.ref t0])) from (Same.new (Same.refl _) nt0).trans (Same.new (Same.refl _) nl0))
      exact ⟨v, d, wl, t, [_, _, _], rfl, rfl, D1.dp, D1.pl, D1.w, D1.t, dr1⟩)
    have dc6 : DoorClo P w K mg base 9 v d wl t HN f6 := doorOf fa6' ["_law_program_here", "_law_works", "_law_memory", "_law_asks", "_law_found"] [some v, some (.ref wl), some (m), some (as_), none] (fun E => tCallX (sp_door K 2) E (tCons (tVar 0) (tCons (tVar 1) (tCons (tVar 2) (tCons (tVar 3) tNil))))) (cloS_by (by kernel_rfl)) (fun A' outer' s' H' E f' hr' => pe_callX (E := E) F_written (hr'.mono (by decide)) rfl T.g_written T.k_written (passes_call (takes_of rfl rfl rfl rfl) (fun _ _ _ _ h => h)) (pa_cons (pv 0) (pa_cons (pv 1) (pa_cons (pv 2) (pa_cons (pv 3) pa_nil))))) (cells_at Sh rfl (ins_by (by kernel_rfl)) rfl hσ) (fun E Q H' D dr => by
      exact ⟨_, rfl, _, rfl, _, rfl, _, rfl, v, d, wl, t, [_, _], rfl, rfl, D.dp, D.pl, D.w, D.t, dr⟩)
    refine q HN l18 [f0, f1, f2, f3, f4, f5, f6] (sN _ _ hl18) (by show 7 ≤ 10; decide) (fun f hf => ?_) (x18.trans (ExtN.of sN)) (Tabs.ext tb18 sN)
    simp only [List.mem_cons, List.not_mem_nil, or_false] at hf
    rcases hf with rfl | rfl | rfl | rfl | rfl | rfl | rfl
    · exact dc0
    · exact dc1
    · exact dc2
    · exact dc3
    · exact dc4
    · exact dc5
    · exact dc6
def sp_l_windows (P : Program) (w : World) (K : PySem.W.Frag) (mg : Str → Option Value) (base : Heap) : Sp := fun vs H Q _ => ∃ (v : V) (d : PyData) (wl t : Addr) (m : V), vs = [v, .ref wl, m] ∧ Tabs (tz K) H ∧ ∀ (H' : Hp) (R : Addr) (fs : List Addr), H' R = some (.lst (fs.map V.ref)) → fs.length ≤ 10 → (∀ f ∈ fs, DoorClo P w K mg base 9 v d wl t H' f) → ExtN H H' → Tabs (tz K) H' → Q (.ref R) H'
theorem ok_l_windows (T : T w K mg) (PT : ProgT P K mg) (TB : TabB base mg (cW K) (tW K)) : FnR P w K mg base CX0 2 (He.ga K "_law_windows") (sp_l_windows P w K mg base) := by
  have F_first_torn : FnR P w K mg base (L2.CX P w) 6 _ _ := ok_door_first_torn T PT
  have F_leans : FnR P w K mg base (L2.CX P w) 6 _ _ := ok_door_leans T PT
  have F_rests : FnR P w K mg base (L2.CX P w) 6 _ _ := ok_door_rests T PT
  have F_guards : FnR P w K mg base (L2.CX P w) 6 _ _ := ok_door_guards T PT
  obtain ⟨fd, F⟩ := T.f_l_windows
  refine makes (p := ("_law_windows", none)) ["_law_program_here", "_law_works", "_law_memory"] F rfl sc_l_windows (by decide +kernel) (fun _ _ _ _ _ _ us hl => match us, hl with | [_, _, _], _ => rfl) (fun vs H Q E h => ?_) (fun A outer s H vs Q E hr h => ?_)
  · obtain ⟨_, _, _, _, _, rfl, _⟩ := h
    rfl
  · obtain ⟨v, d, wl, t, m, rfl, tb0, q⟩ := h
    refine ⟨_, (psr_cons (ps_set (i := 3) sc_l_windows.nd rfl (Or.inl rfl) (pe_lst (pa_cons (pe_clo0 (T := tz K) (P := tW K) (c := cW K) TB rfl (by exact (List.mem_cons_of_mem _ List.mem_cons_self)) (by exact hu_W T) (free_by (by show freeB _ (defScope s_l_windows) = true; decide +kernel)) rfl (fun _ _ _ _ _ _ => rfl)) pa_nil))) 
  (psr_cons (ps_set (i := 3) sc_l_windows.nd rfl (Or.inl rfl) (pe_op op_cat (pv 3) (pe_lst (pa_cons (pe_clo1 (x := "_law_a") (T := tz K) (P := tW K) (c := cW K) TB rfl (by exact (List.mem_cons_of_mem _ List.mem_cons_self)) (by exact hu_W T) (free_by (by show freeB _ (defScope s_l_windows) = true; decide +kernel)) rfl rfl (by decide +kernel) (fun _ _ _ _ _ _ _ => ⟨_, rfl, fun _ => rfl⟩)) pa_nil)))) 
  (psr_cons (ps_set (i := 3) sc_l_windows.nd rfl (Or.inl rfl) (pe_op op_cat (pv 3) (pe_lst (pa_cons (pe_clo1 (x := "_law_b") (T := tz K) (P := tW K) (c := cW K) TB rfl (by exact (List.mem_cons_of_mem _ List.mem_cons_self)) (by exact hu_W T) (free_by (by show freeB _ (defScope s_l_windows) = true; decide +kernel)) rfl rfl (by decide +kernel) (fun _ _ _ _ _ _ _ => ⟨_, rfl, fun _ => rfl⟩)) pa_nil)))) 
  (psr_ret (pe_op op_cat (pv 3) (pe_lst (pa_cons (pe_clo1 (x := "_law_c") (T := tz K) (P := tW K) (c := cW K) TB rfl (by exact (List.mem_cons_of_mem _ List.mem_cons_self)) (by exact hu_W T) (free_by (by show freeB _ (defScope s_l_windows) = true; decide +kernel)) rfl rfl (by decide +kernel) (fun _ _ _ _ _ _ _ => ⟨_, rfl, fun _ => rfl⟩)) pa_nil))))))), ?_⟩
    have x0 : ExtN H H := ExtN.refl _
    refine ⟨tb0, fun f0 c0 dV0 G1 eN1 _ tb1 _ fa0 => ?_⟩
    have x1 := x0.trans eN1
    refine ⟨by show 1 ≤ sizeLine; decide, fun l2 nl2 => ?_⟩
    generalize hG : upd G1 l2 _ = G2
    have s2 : Same G1 G2 := by rw [← hG]; exact Same.new (Same.refl _) nl2
    have hl2 : G2 l2 = some (.lst [.ref f0]) := by rw [← hG]; exact upd_same
    clear hG
    have x2 := x1.trans (ExtN.of s2)
    have tb2 := Tabs.ext tb1 s2
    have fa0 := fnAt_same fa0 s2
    refine ⟨_, rfl, ?_⟩
    refine ⟨tb2, fun f1 c1 dV1 G3 eN3 _ tb3 _ fa1 => ?_⟩
    have x3 := x2.trans eN3
    have fa0 := fnAt_ext fa0 eN3
    have hl2 := eN3 _ _ hl2 nt_lstC
    refine ⟨by show 1 ≤ sizeLine; decide, fun l4 nl4 => ?_⟩
    generalize hG : upd G3 l4 _ = G4
    have s4 : Same G3 G4 := by rw [← hG]; exact Same.new (Same.refl _) nl4
    have hl4 : G4 l4 = some (.lst [.ref f1]) := by rw [← hG]; exact upd_same
    clear hG
    have x4 := x3.trans (ExtN.of s4)
    have tb4 := Tabs.ext tb3 s4
    have fa0 := fnAt_same fa0 s4
    have fa1 := fnAt_same fa1 s4
    have hl2 := s4 _ _ hl2
    refine ⟨l2, l4, _, _, rfl, rfl, hl2, hl4, by show 1 + 1 ≤ sizeLine; decide, fun l5 nl5 => ?_⟩
    generalize hG : upd G4 l5 _ = G5
    have s5 : Same G4 G5 := by rw [← hG]; exact Same.new (Same.refl _) nl5
    have hl5 : G5 l5 = some (.lst [.ref f0, .ref f1]) := by rw [← hG]; exact upd_same
    clear hG
    have x5 := x4.trans (ExtN.of s5)
    have tb5 := Tabs.ext tb4 s5
    have fa0 := fnAt_same fa0 s5
    have fa1 := fnAt_same fa1 s5
    refine ⟨_, rfl, ?_⟩
    refine ⟨tb5, fun f2 c2 dV2 G6 eN6 _ tb6 _ fa2 => ?_⟩
    have x6 := x5.trans eN6
    have fa0 := fnAt_ext fa0 eN6
    have fa1 := fnAt_ext fa1 eN6
    have hl5 := eN6 _ _ hl5 nt_lstC
    refine ⟨by show 1 ≤ sizeLine; decide, fun l7 nl7 => ?_⟩
    generalize hG : upd G6 l7 _ = G7
    have s7 : Same G6 G7 := by rw [← hG]; exact Same.new (Same.refl _) nl7
    have hl7 : G7 l7 = some (.lst [.ref f2]) := by rw [← hG]; exact upd_same
    clear hG
    have x7 := x6.trans (ExtN.of s7)
    have tb7 := Tabs.ext tb6 s7
    have fa0 := fnAt_same fa0 s7
    have fa1 := fnAt_same fa1 s7
    have fa2 := fnAt_same fa2 s7
    have hl5 := s7 _ _ hl5
    refine ⟨l5, l7, _, _, rfl, rfl, hl5, hl7, by show 2 + 1 ≤ sizeLine; decide, fun l8 nl8 => ?_⟩
    generalize hG : upd G7 l8 _ = G8
    have s8 : Same G7 G8 := by rw [← hG]; exact Same.new (Same.refl _) nl8
    have hl8 : G8 l8 = some (.lst [.ref f0, .ref f1, .ref f2]) := by rw [← hG]; exact upd_same
    clear hG
    have x8 := x7.trans (ExtN.of s8)
    have tb8 := Tabs.ext tb7 s8
    have fa0 := fnAt_same fa0 s8
    have fa1 := fnAt_same fa1 s8
    have fa2 := fnAt_same fa2 s8
    refine ⟨_, rfl, ?_⟩
    refine ⟨tb8, fun f3 c3 dV3 G9 eN9 _ tb9 _ fa3 => ?_⟩
    have x9 := x8.trans eN9
    have fa0 := fnAt_ext fa0 eN9
    have fa1 := fnAt_ext fa1 eN9
    have fa2 := fnAt_ext fa2 eN9
    have hl8 := eN9 _ _ hl8 nt_lstC
    refine ⟨by show 1 ≤ sizeLine; decide, fun l10 nl10 => ?_⟩
    generalize hG : upd G9 l10 _ = G10
    have s10 : Same G9 G10 := by rw [← hG]; exact Same.new (Same.refl _) nl10
    have hl10 : G10 l10 = some (.lst [.ref f3]) := by rw [← hG]; exact upd_same
    clear hG
    have x10 := x9.trans (ExtN.of s10)
    have tb10 := Tabs.ext tb9 s10
    have fa0 := fnAt_same fa0 s10
    have fa1 := fnAt_same fa1 s10
    have fa2 := fnAt_same fa2 s10
    have fa3 := fnAt_same fa3 s10
    have hl8 := s10 _ _ hl8
    refine ⟨l8, l10, _, _, rfl, rfl, hl8, hl10, by show 3 + 1 ≤ sizeLine; decide, fun l11 nl11 => ?_⟩
    generalize hG : upd G10 l11 _ = G11
    have s11 : Same G10 G11 := by rw [← hG]; exact Same.new (Same.refl _) nl11
    have hl11 : G11 l11 = some (.lst [.ref f0, .ref f1, .ref f2, .ref f3]) := by rw [← hG]; exact upd_same
    clear hG
    have x11 := x10.trans (ExtN.of s11)
    have tb11 := Tabs.ext tb10 s11
    have fa0 := fnAt_same fa0 s11
    have fa1 := fnAt_same fa1 s11
    have fa2 := fnAt_same fa2 s11
    have fa3 := fnAt_same fa3 s11
    refine ⟨fun y hy => ?_, fun HN Sh => ?_⟩
    · simp only [List.mem_cons, List.not_mem_nil, or_false] at hy
      rcases hy with rfl | rfl | rfl
      · exact ⟨0, _, rfl, rfl⟩
      · exact ⟨1, _, rfl, rfl⟩
      · exact ⟨2, _, rfl, rfl⟩
    have sN : Same G11 HN := Sh.ext
    have hσ : ∀ (i : Nat) (u : V), ([some v, some (.ref wl), some (m), none] : L2.St)[i]? = some (some u) → ([some v, some (.ref wl), some (m), some (.ref l8)] : L2.St)[i]? = some (some u) := fun i u h => by
      match i, h with
      | 0, h => exact h
      | 1, h => exact h
      | 2, h => exact h
      | 3, h => cases h
      | _ + 4, h => cases h
    have fa0' := fnAt_same fa0 sN
    have fa1' := fnAt_same fa1 sN
    have fa2' := fnAt_same fa2 sN
    have fa3' := fnAt_same fa3 sN
    have dc0 : DoorClo P w K mg base 9 v d wl t HN f0 := doorOf fa0' ["_law_program_here", "_law_works", "_law_memory", "_law_found"] [some v, some (.ref wl), some (m), none] (fun E => tCallX (sp_door K 4) E (tCons (tVar 0) (tCons (tVar 1) (tCons (tVar 2) (tCons (tUn (rU fun i => .int (-i)) (tC (.int 1))) (tCons (tC (.int 5)) (tCons (tC (.int 4)) tNil))))))) (cloS_by (by kernel_rfl)) (fun A' outer' s' H' E f' hr' => pe_callX (E := E) F_first_torn (hr'.mono (by decide)) rfl T.g_first_torn T.k_first_torn (passes_call (takes_of rfl rfl rfl rfl) (fun _ _ _ _ h => h)) (pa_cons (pv 0) (pa_cons (pv 1) (pa_cons (pv 2) (pa_cons (pe_un un_neg pe_int) (pa_cons pe_int (pa_cons pe_int pa_nil))))))) (cells_at Sh rfl (ins_by (by kernel_rfl)) rfl hσ) (fun E Q H' D dr => by
      exact ⟨_, rfl, _, rfl, _, rfl, 1, rfl, v, d, wl, t, [_, _, _, _], rfl, rfl, D.dp, D.pl, D.w, D.t, dr⟩)
    have dc1 : DoorClo P w K mg base 9 v d wl t HN f1 := doorOf fa1' ["_law_program_here", "_law_works", "_law_memory", "_law_found"] [some v, some (.ref wl), some (m), none] (fun E => tCallX (sp_door K 5) E (tCons (tVar 0) (tCons (tVar 1) (tCons (tVar 2) (tCons (tUn (rU fun i => .int (-i)) (tC (.int 1))) (tCons (tC (.int 5)) (tCons (tC (.int 4)) (tCons (tTup tNil) tNil)))))))) (cloS_by (by kernel_rfl)) (fun A' outer' s' H' E f' hr' => pe_callX (E := E) F_leans (hr'.mono (by decide)) rfl T.g_leans T.k_leans (passes_call (takes_of rfl rfl rfl rfl) (fun _ _ _ _ h => h)) (pa_cons (pv 0) (pa_cons (pv 1) (pa_cons (pv 2) (pa_cons (pe_un un_neg pe_int) (pa_cons pe_int (pa_cons pe_int (pa_cons (pe_tup pa_nil) pa_nil)))))))) (cells_at Sh rfl (ins_by (by kernel_rfl)) rfl hσ) (fun E Q H' D dr => by
      refine ⟨_, rfl, _, rfl, _, rfl, 1, rfl, by show 0 ≤ sizeLine; decide, fun t0 nt0 => ?_⟩
      have D1 := D.same (show Same H' (upd H' t0 (.tup [])) from Same.new (Same.refl _) nt0)
      have dr1 := dr.same (show Same H' (upd H' t0 (.tup [])) from Same.new (Same.refl _) nt0)
      exact ⟨v, d, wl, t, [_, _, _, _, _], rfl, rfl, D1.dp, D1.pl, D1.w, D1.t, dr1⟩)
    have dc2 : DoorClo P w K mg base 9 v d wl t HN f2 := doorOf fa2' ["_law_program_here", "_law_works", "_law_memory", "_law_found"] [some v, some (.ref wl), some (m), none] (fun E => tCallX (sp_door K 5) E (tCons (tVar 0) (tCons (tVar 1) (tCons (tVar 2) (tCons (tUn (rU fun i => .int (-i)) (tC (.int 1))) (tCons (tC (.int 5)) (tCons (tC (.int 4)) (tCons (tUn (rU fun i => .int (-i)) (tC (.int 1))) tNil)))))))) (cloS_by (by kernel_rfl)) (fun A' outer' s' H' E f' hr' => pe_callX (E := E) F_rests (hr'.mono (by decide)) rfl T.g_rests T.k_rests (passes_call (takes_of rfl rfl rfl rfl) (fun _ _ _ _ h => h)) (pa_cons (pv 0) (pa_cons (pv 1) (pa_cons (pv 2) (pa_cons (pe_un un_neg pe_int) (pa_cons pe_int (pa_cons pe_int (pa_cons (pe_un un_neg pe_int) pa_nil)))))))) (cells_at Sh rfl (ins_by (by kernel_rfl)) rfl hσ) (fun E Q H' D dr => by
      exact ⟨_, rfl, _, rfl, _, rfl, 1, rfl, 1, rfl, v, d, wl, t, [_, _, _, _, _], rfl, rfl, D.dp, D.pl, D.w, D.t, dr⟩)
    have dc3 : DoorClo P w K mg base 9 v d wl t HN f3 := doorOf fa3' ["_law_program_here", "_law_works", "_law_memory", "_law_found"] [some v, some (.ref wl), some (m), none] (fun E => tCallX (sp_door K 6) E (tCons (tVar 0) (tCons (tVar 1) (tCons (tVar 2) (tCons (tUn (rU fun i => .int (-i)) (tC (.int 1))) (tCons (tC (.int 5)) (tCons (tC (.int 4)) (tCons (tUn (rU fun i => .int (-i)) (tC (.int 1))) (tCons (tUn (rU fun i => .int (-i)) (tC (.int 1))) tNil))))))))) (cloS_by (by kernel_rfl)) (fun A' outer' s' H' E f' hr' => pe_callX (E := E) F_guards (hr'.mono (by decide)) rfl T.g_guards T.k_guards (passes_call (takes_of rfl rfl rfl rfl) (fun _ _ _ _ h => h)) (pa_cons (pv 0) (pa_cons (pv 1) (pa_cons (pv 2) (pa_cons (pe_un un_neg pe_int) (pa_cons pe_int (pa_cons pe_int (pa_cons (pe_un un_neg pe_int) (pa_cons (pe_un un_neg pe_int) pa_nil))))))))) (cells_at Sh rfl (ins_by (by kernel_rfl)) rfl hσ) (fun E Q H' D dr => by
      exact ⟨_, rfl, _, rfl, _, rfl, 1, rfl, 1, rfl, 1, rfl, v, d, wl, t, [_, _, _, _, _, _], rfl, rfl, D.dp, D.pl, D.w, D.t, dr⟩)
    refine q HN l11 [f0, f1, f2, f3] (sN _ _ hl11) (by show 4 ≤ 10; decide) (fun f hf => ?_) (x11.trans (ExtN.of sN)) (Tabs.ext tb11 sN)
    simp only [List.mem_cons, List.not_mem_nil, or_false] at hf
    rcases hf with rfl | rfl | rfl | rfl
    · exact dc0
    · exact dc1
    · exact dc2
    · exact dc3
end
end SB

set_option Elab.async false
set_option linter.all false
set_option maxRecDepth 100000
set_option maxHeartbeats 2000000
namespace SB
open PySem L2
theorem cut_dropT {xs : List V} {n : Nat} : cutV xs (some (n : Int)) none = xs.drop n := by
  unfold cutV
  rw [HT.sIx_nat]
  show (xs.drop (min n xs.length)).take (xs.length - min n xs.length) = _
  by_cases h : n ≤ xs.length
  · rw [Nat.min_eq_left h, List.take_of_length_le (by rw [List.length_drop]; exact Nat.le_refl _)]
  · rw [Nat.min_eq_right (by omega), List.drop_of_length_le (Nat.le_refl _), List.drop_of_length_le (by omega), List.take_nil]
theorem cut_takeT {xs : List V} {n : Nat} : cutV xs none (some (n : Int)) = xs.take n := by
  unfold cutV
  rw [HT.sIx_nat]
  show (xs.drop 0).take (min n xs.length - 0) = _
  rw [List.drop_zero, Nat.sub_zero]
  by_cases h : n ≤ xs.length
  · rw [Nat.min_eq_left h]
  · rw [Nat.min_eq_right (by omega), List.take_of_length_le (Nat.le_refl _), List.take_of_length_le (by omega)]
theorem sIx_neg {n d k : Nat} (h : 0 < k) : HT.sIx n d (some (-(k : Int))) = n - k := by
  show (if -(k : Int) < 0 then (-(k : Int) + (n : Int)).toNat else min (-(k : Int)).toNat n) = n - k
  rw [if_pos (by omega)]
  omega
theorem cut_negT {xs : List V} {k : Nat} (h : 0 < k) : cutV xs (some (-(k : Int))) none = xs.drop (xs.length - k) := by
  unfold cutV
  rw [sIx_neg h]
  show (xs.drop (xs.length - k)).take (xs.length - (xs.length - k)) = _
  rw [List.take_of_length_le (by rw [List.length_drop]; exact Nat.le_refl _)]
section
variable {K : PySem.W.Frag} {H H' : Hp}
theorem sl_hiT {a : Addr} {xs : List V} {n : Nat} {Q : VK} (h : SqT K H a xs) (q : ∀ H' p, SqT K H' p (xs.take n) → Same H H' → Q (.ref p) H') : rSlA K (.ref a) none (some (n : Int)) H Q := by
  refine ⟨a, xs, rfl, h, fun hw => ?_, fun _ p np => ?_⟩
  · refine q H a ?_ (Same.refl _)
    have := hw.2
    rw [HT.sIx_nat] at this
    rw [List.take_of_length_le (by omega)]
    exact h
  · refine q _ p ?_ (Same.new (Same.refl _) np)
    rw [cut_takeT]
    exact SqT.of upd_same
theorem sl_loT {a : Addr} {xs : List V} {n : Nat} {Q : VK} (h : SqT K H a xs) (q : ∀ H' p, SqT K H' p (xs.drop n) → Same H H' → Q (.ref p) H') : rSlA K (.ref a) (some (n : Int)) none H Q := by
  refine ⟨a, xs, rfl, h, fun hw => ?_, fun _ p np => ?_⟩
  · refine q H a ?_ (Same.refl _)
    have := hw.1
    rw [HT.sIx_nat] at this
    by_cases h0 : n = 0
    · rw [h0]; exact h
    · have : xs = [] := List.length_eq_zero_iff.mp (by omega)
      rw [this] at h ⊢
      rw [List.drop_nil]
      exact h
  · refine q _ p ?_ (Same.new (Same.refl _) np)
    rw [cut_dropT]
    exact SqT.of upd_same
theorem sl_negT {a : Addr} {xs : List V} {k : Nat} {Q : VK} (k0 : 0 < k) (h : SqT K H a xs) (q : ∀ H' p, SqT K H' p (xs.drop (xs.length - k)) → Same H H' → Q (.ref p) H') : rSlA K (.ref a) (some (-(k : Int))) none H Q := by
  refine ⟨a, xs, rfl, h, fun hw => ?_, fun _ p np => ?_⟩
  · refine q H a ?_ (Same.refl _)
    have := hw.1
    rw [sIx_neg k0] at this
    rw [this, List.drop_zero]
    exact h
  · refine q _ p ?_ (Same.new (Same.refl _) np)
    rw [cut_negT k0]
    exact SqT.of upd_same
theorem cat_anyT {a b : Addr} {xs ys : List V} {Q : VK} (ha : SqT K H a xs) (hb : SqT K H b ys) (hl : xs.length + ys.length ≤ sizeLine) (q : ∀ H' p, SqT K H' p (xs ++ ys) → Same H H' → Q (.ref p) H') : rCatA K (.ref a) (.ref b) H Q := by
  refine ⟨a, b, xs, ys, rfl, rfl, ha, hb, hl, fun h => ?_, fun _ h => ?_, fun _ _ p np => ?_⟩
  · refine q H b ?_ (Same.refl _)
    rw [h]
    exact hb
  · refine q H a ?_ (Same.refl _)
    rw [h, List.append_nil]
    exact ha
  · exact q _ p (SqT.of upd_same) (Same.new (Same.refl _) np)
theorem rep_flat {α : Type} (x : α) : ∀ n : Nat, (List.replicate n [x]).flatten = List.replicate n x
  | 0 => rfl
  | n + 1 => by
    rw [List.replicate_succ, List.flatten_cons, rep_flat x n, List.replicate_succ]
    rfl
theorem rep_oneT {a t : Addr} {k : Int} {Q : VK} (ha : SqT K H a [.ref t]) (k0 : 0 ≤ k) (k1 : k ≤ 1000) (q : ∀ H' p, SqT K H' p ((List.replicate k.toNat t).map V.ref) → Same H H' → Q (.ref p) H') : rRepA K (.ref a) (.int k) H Q := by
  refine ⟨a, k, _, rfl, rfl, ha, (fun z => by cases z), k0, k1, by show 1 ≤ 1000; decide, fun h => ?_, fun _ p np => ?_⟩
  · refine q H a ?_ (Same.refl _)
    rw [h]
    exact ha
  · refine q _ p ?_ (Same.new (Same.refl _) np)
    rw [rep_flat, List.map_replicate]
    exact SqT.of upd_same
structure RowsAt (K : PySem.W.Frag) (H : Hp) (rs : List Addr) (prog : List Row) : Prop where
  len : rs.length = prog.length
  at_ : ∀ (j : Nat) (t : Addr) (r : Row), rs[j]? = some t → prog[j]? = some r → SqT K H t r.vs
theorem ProgAt.rows {pa : Addr} {rs : List Addr} {prog : List Row} (h : ProgAt K H pa rs prog) : RowsAt K H rs prog := ⟨h.len, h.at_⟩
theorem RowsAt.prog {pa : Addr} {rs : List Addr} {prog : List Row} (h : RowsAt K H rs prog) (t : SqT K H pa (rs.map V.ref)) : ProgAt K H pa rs prog := ⟨t, h.len, h.at_⟩
theorem RowsAt.same {rs : List Addr} {prog : List Row} (h : RowsAt K H rs prog) (s : Same H H') : RowsAt K H' rs prog := ⟨h.len, fun j t r e1 e2 => Same.tup s (h.at_ j t r e1 e2)⟩
theorem RowsAt.app {rs rs2 : List Addr} {prog prog2 : List Row} (h : RowsAt K H rs prog) (h2 : RowsAt K H rs2 prog2) : RowsAt K H (rs ++ rs2) (prog ++ prog2) := by
  refine ⟨by rw [List.length_append, List.length_append, h.len, h2.len], fun j t r e1 e2 => ?_⟩
  by_cases hj : j < rs.length
  · rw [List.getElem?_append_left hj] at e1
    rw [List.getElem?_append_left (by rw [← h.len]; exact hj)] at e2
    exact h.at_ j t r e1 e2
  · rw [List.getElem?_append_right (by omega)] at e1
    rw [List.getElem?_append_right (by rw [← h.len]; omega), ← h.len] at e2
    exact h2.at_ _ t r e1 e2
theorem RowsAt.drop {rs : List Addr} {prog : List Row} (h : RowsAt K H rs prog) (n : Nat) : RowsAt K H (rs.drop n) (prog.drop n) := by
  refine ⟨by rw [List.length_drop, List.length_drop, h.len], fun j t r e1 e2 => ?_⟩
  rw [List.getElem?_drop] at e1 e2
  exact h.at_ _ t r e1 e2
theorem RowsAt.take {rs : List Addr} {prog : List Row} (h : RowsAt K H rs prog) (n : Nat) : RowsAt K H (rs.take n) (prog.take n) := by
  refine ⟨by rw [List.length_take, List.length_take, h.len], fun j t r e1 e2 => ?_⟩
  have hj : j < n := by
    have := (List.getElem?_eq_some_iff.mp e1).1
    rw [List.length_take] at this
    omega
  rw [List.getElem?_take_of_lt hj] at e1 e2
  exact h.at_ j t r e1 e2
theorem RowsAt.rep {t : Addr} {r : Row} (h : SqT K H t r.vs) (n : Nat) : RowsAt K H (List.replicate n t) (List.replicate n r) := by
  refine ⟨by rw [List.length_replicate, List.length_replicate], fun j t' r' e1 e2 => ?_⟩
  have h1 := List.mem_of_getElem? e1
  have h2 := List.mem_of_getElem? e2
  rw [(List.mem_replicate.mp h1).2, (List.mem_replicate.mp h2).2]
  exact h
theorem RowsAt.one {t : Addr} {r : Row} (h : SqT K H t r.vs) : RowsAt K H [t] [r] := RowsAt.rep h 1
end
end SB

set_option Elab.async false
set_option linter.all false
set_option maxRecDepth 100000
set_option maxHeartbeats 1000000
namespace SB
open PySem L2 StX
def ItD (m : Nat) : PyData → Prop
  | .str z => PyData.canLay0 (.str z) = true ∧ z.length ≤ m
  | .tuple ds => ds = []
  | .list _ => False
  | .dict _ => False
  | _ => True
def RwD (m : Nat) : PyData → Prop
  | .tuple ds => ds.length ≤ m ∧ ∀ d ∈ ds, ItD m d
  | .int _ => True
  | .none => True
  | _ => False
theorem ItD.mono {m n : Nat} (h : m ≤ n) : ∀ {d : PyData}, ItD m d → ItD n d
  | .str _, k => ⟨k.1, Nat.le_trans k.2 h⟩
  | .tuple _, k => k
  | .none, _ => trivial
  | .bool _, _ => trivial
  | .int _, _ => trivial
theorem RwD.mono {m n : Nat} (h : m ≤ n) : ∀ {d : PyData}, RwD m d → RwD n d
  | .tuple _, k => ⟨Nat.le_trans k.1 h, fun d hd => (k.2 d hd).mono h⟩
  | .none, _ => trivial
  | .int _, _ => trivial
theorem ItD.pl {m : Nat} (n : Nat) : ∀ {d : PyData}, ItD m d → Pl (n + 1) d
  | .str _, k => .str _ k.1
  | .tuple ds, k => .tup n (fun d hd => by
    have k : ds = [] := k
    subst k
    cases hd)
  | .none, _ => .non _
  | .bool b, _ => .bl _ b
  | .int i, _ => .int _ i
theorem RwD.pl {m : Nat} (n : Nat) : ∀ {d : PyData}, RwD m d → Pl (n + 2) d
  | .tuple _, k => .tup _ (fun d hd => (k.2 d hd).pl n)
  | .none, _ => .non _
  | .int i, _ => .int _ i
section
variable {P : Program} {w : World} {K : PySem.W.Frag} {mg : Str → Option Value} {base : Heap} {H H' : Hp}
mutual
theorem dp_dice {d sl : Addr} {f p : Int} {cs : List Int} (D : DiceAt H d sl f p cs) (k : Kept [d, sl] H H') : ∀ {v : V} {a : PyData}, Dp K H v a → ∀ {n : Nat}, Pl n a → Dp K H' v a
  | _, _, .non, _, _ => .non
  | _, _, .bl b, _, _ => .bl b
  | _, _, .int i, _, _ => .int i
  | _, _, .str x, _, _ => .str x
  | _, _, .lst h t, _, pl => nomatch pl
  | _, _, .tup h t, _, pl => .tup (tup_keep h k (fun b hb => by
      have e : b = d ∨ b = sl := by simpa using hb
      rcases e with rfl | rfl
      · exact ⟨_, D.ob, rfl⟩
      · exact ⟨_, D.ls, rfl⟩)) (dps_dice D k t (fun a ha => by
      cases pl with
      | tup m hm => exact ⟨m, hm a ha⟩))
theorem dps_dice {d sl : Addr} {f p : Int} {cs : List Int} (D : DiceAt H d sl f p cs) (k : Kept [d, sl] H H') : ∀ {vs : List V} {as : List PyData}, DpAll K H vs as → (∀ a ∈ as, ∃ n, Pl n a) → DpAll K H' vs as
  | _, _, .nil, _ => .nil
  | _, _, .cons h t, a => .cons ((a _ List.mem_cons_self).elim fun n pl => dp_dice D k h pl) (dps_dice D k t (fun x hx => a x (List.mem_cons_of_mem _ hx)))
end
theorem StD.dp {d sl : Addr} {n m : Nat} {Hx Hy : Hp} {v : V} {a : PyData} (S : StD H d sl n Hx) (k : Kept [d, sl] Hx Hy) (pl : Pl m a) (D : Dp K Hx v a) : Dp K Hy v a := by
  obtain ⟨f, p, cs, D0, _, _⟩ := S
  exact dp_dice D0 k D pl
theorem cut_ok {z : Str} {lo hi : Option Int} (h : PyData.canLay0 (.str z) = true) : PyData.canLay0 (.str (cutS z lo hi)) = true := by
  have h : z.cps.all (· < 0x110000) = true := h
  show (cutS z lo hi).cps.all (· < 0x110000) = true
  rw [Array.all_eq_true'] at h ⊢
  intro x hx
  have hx : x ∈ (((z.cps.toList.drop (HT.sIx z.length 0 lo)).take (HT.sIx z.length z.length hi - HT.sIx z.length 0 lo)).toArray) := hx
  rw [List.mem_toArray] at hx
  exact h x (by simpa using List.mem_of_mem_drop (List.mem_of_mem_take hx))
theorem cut_len {z : Str} {lo hi : Option Int} : (cutS z lo hi).length ≤ z.length := by
  show (((z.cps.toList.drop (HT.sIx z.length 0 lo)).take (HT.sIx z.length z.length hi - HT.sIx z.length 0 lo)).toArray).size ≤ z.cps.size
  rw [List.size_toArray, List.length_take, List.length_drop, Array.length_toList]
  omega
theorem add_ok {z y : Str} (h : PyData.canLay0 (.str z) = true) (hy : PyData.canLay0 (.str y) = true) : PyData.canLay0 (.str (z ++ y)) = true := by
  have h : z.cps.all (· < 0x110000) = true := h
  have hy : y.cps.all (· < 0x110000) = true := hy
  show (z.cps ++ y.cps).all (· < 0x110000) = true
  rw [Array.all_append, h, hy]
  rfl
theorem add_len {z y : Str} : (z ++ y).length = z.length + y.length := by
  show (z.cps ++ y.cps).size = _
  rw [Array.size_append]
  rfl
def sp_l_odd (K : PySem.W.Frag) : Sp := fun vs H Q _ => ∃ (d sl : Addr) (f p : Int) (cs : List Int) (v : V) (a : PyData) (m : Nat), vs = [.ref d, v] ∧ DiceAt H d sl f p cs ∧ cs.length ≤ 63 ∧ Dp K H v a ∧ ItD m a ∧ m ≤ 1000 ∧
  ∀ (Hy : Hp) (v' : V) (a' : PyData), StD H d sl cs.length Hy → Dp K Hy v' a' → ItD (m + 4) a' → Q v' Hy
theorem ok_l_odd (T : T w K mg) : FnR P w K mg base CX0 2 (He.ga K "_law_odd") (sp_l_odd K) := by
  have F_l_off : FnR P w K mg base CX0 1 _ _ := ok_l_off T
  obtain ⟨fd, F⟩ := T.f_l_odd
  refine F.r sc_l_odd (fun _ _ _ _ _ _ us hl => match us, hl with | [_, _], _ => rfl) (fun vs H Q E h => ?_) (fun cdv A outer s H vs Q E hr h => ?_)
  · obtain ⟨_, _, _, _, _, _, _, _, rfl, _⟩ := h
    rfl
  · obtain ⟨d, sl, f, p, cs, v, a, m, rfl, D, c63, Dv, it, m1, q⟩ := h
    refine ⟨_, (pss_cons (ps_set (i := 2) sc_l_odd.nd rfl (Or.inl rfl) (pe_callR F_l_off (hr.mono (by decide)) rfl T.g_l_off T.k_l_off (pa_cons (pv 0) (pa_cons pe_int pa_nil))))
  (pss_cons (ps_set (i := 3) sc_l_odd.nd rfl (Or.inl rfl) (pe_ix ix_list (pe_lst (pa_cons pe_int (pa_cons (pe_callR F_l_off (hr.mono (by decide)) rfl T.g_l_off T.k_l_off (pa_cons (pv 0) (pa_cons (pe_op op_pow pe_int pe_int) pa_nil))) pa_nil))) (pe_callR F_l_off (hr.mono (by decide)) rfl T.g_l_off T.k_l_off (pa_cons (pv 0) (pa_cons pe_int pa_nil))) (fun _ _ => rfl)))
  (pss_cons (ps_if (pt_cmpR op_eq (pv 2) pe_int (nomark _))
  (pss_one (ps_ret (pe_ix ix_list (pe_lst (pa_cons pe_bl (pa_cons pe_non (pa_cons pe_str (pa_cons (pe_tup pa_nil) (pa_cons pe_str pa_nil)))))) (pe_callR F_l_off (hr.mono (by decide)) rfl T.g_l_off T.k_l_off (pa_cons (pv 0) (pa_cons pe_int pa_nil))) (fun _ _ => rfl))))
  pss_nil)
  (pss_cons (ps_if (PW.pt (pw_and (pt_val (pe_isi (n := "int") rfl T.u_isinstance rfl T.u_int (pv 1))) (pw_and1 (pt_not (pt_val (pe_isi (n := "bool") rfl T.u_isinstance rfl T.u_bool (pv 1)))))))
  (pss_one (ps_ret (pe_ix ix_list (pe_lst (pa_cons (pe_op op_add (pv 1) pe_int) (pa_cons (pe_op op_sub (pv 1) pe_int) (pa_cons (pe_op op_sub (pe_un un_neg pe_int) (pv 3)) (pa_cons (pe_op op_add pe_int (pv 3)) (pa_cons (pe_op op_add pe_int (pv 3)) pa_nil)))))) (pe_op op_sub (pv 2) pe_int) (fun _ _ => rfl))))
  pss_nil)
  (pss_cons (ps_if (pt_val (pe_isi (n := "str") rfl T.u_isinstance rfl T.u_str (pv 1)))
  (pss_one (ps_ret (pe_ix ix_list (pe_lst (pa_cons (pe_op op_add_str (pv 1) pe_str) (pa_cons (pe_slice sl_str (pv 1) po_none (po_some (pe_un un_neg pe_int))) (pa_cons pe_str (pa_cons pe_str (pa_cons pe_str pa_nil)))))) (pe_op op_sub (pv 2) pe_int) (fun _ _ => rfl))))
  pss_nil)
  (pss_one (ps_ret (pe_ix ix_list (pe_lst (pa_cons (pv 1) (pa_cons pe_int (pa_cons (pv 3) (pa_cons (pe_tup pa_nil) (pa_cons pe_str pa_nil)))))) (pe_op op_sub (pv 2) pe_int) (fun _ _ => rfl))))))))), ?_⟩
    have S0 : StD H d sl cs.length H := ⟨f, p, cs, D, rfl, Kept.refl _ _⟩
    have pl0 : Pl 1 a := it.pl 0
    refine S0.off c63 rfl (fun _ h => h) (by decide) (by decide) (fun G1 way S1 k1 w0 w1 => ?_)
    have Dv := S0.dp k1 pl0 Dv
    refine S1.off c63 rfl (fun _ h => ⟨_, _, rfl, rfl, ⟨by omega, by omega, by decide⟩, h⟩) (by decide) (by decide) (fun G2 far S2 k2 f0 f1 => ?_)
    have Dv := S1.dp k2 pl0 Dv
    refine ⟨by show 2 ≤ sizeLine; decide, fun b1 nb1 => ?_⟩
    generalize hG : upd G2 b1 _ = G3
    have s3 : Same G2 G3 := by rw [← hG]; exact Same.new (Same.refl _) nb1
    have hb1 : G3 b1 = some (.lst [.int 0, .int far]) := by rw [← hG]; exact upd_same
    have S3 : StD H d sl cs.length G3 := by rw [← hG]; exact S2.new nb1
    have nb : b1 ∉ [d, sl] := S2.nin nb1
    clear hG
    have Dv := dpS s3 Dv
    refine S3.off c63 rfl (fun _ h => h) (by decide) (by decide) (fun G4 u S4 k4 u0 u1 => ?_)
    have Dv := S3.dp k4 pl0 Dv
    obtain ⟨far', hf⟩ : ∃ far' : Int, atI ([.int 0, .int far] : List V) u = some (.int far') := by
      have : u = 0 ∨ u = 1 := by omega
      rcases this with rfl | rfl
      · exact ⟨0, rfl⟩
      · exact ⟨far, rfl⟩
    refine ⟨_, _, _, _, rfl, rfl, SqL.of (k4 _ _ hb1 nb), hf, ?_⟩
    dsimp only [tNext, tSeq, tAsg, gName, tRet, List.set]
    clear hf hb1 s3 k1 k2 k4 S1 S2 S3
    -- the end of it
    have pick5 : ∀ (Hy : Hp) (xs : List V) (as : List PyData) (i : Int) (R : Addr), StD H d sl cs.length Hy → SqL K Hy R xs → DpAll K Hy xs as → (∀ a ∈ as, ItD (m + 4) a) → as.length = 5 → 0 ≤ i → i < 5 → rIxL K (.ref R) (.int i) Hy Q := fun Hy xs as i R Sy hR hD hI l5 i0 i5 => by
      have hat := dpAll_at hD
      obtain ⟨n, rfl⟩ : ∃ n : Nat, i = (n : Int) := ⟨i.toNat, by omega⟩
      have hn : n < as.length := by omega
      obtain ⟨a', ha'⟩ : ∃ a', as[n]? = some a' := ⟨_, List.getElem?_eq_getElem hn⟩
      obtain ⟨v', hv'⟩ : ∃ v', xs[n]? = some v' := ⟨_, List.getElem?_eq_getElem (by rw [hat.1]; exact hn)⟩
      refine ⟨_, _, _, v', rfl, rfl, hR, by rw [at_eqJ (by rw [hat.1]; exact hn)]; exact hv', q Hy v' a' Sy (hat.2 n v' a' hv' ha') (hI a' (List.mem_of_getElem? ha'))⟩
    have strI : ∀ z : Str, PyData.canLay0 (.str z) = true → z.length ≤ 4 → ItD (m + 4) (.str z) := fun z h l => ⟨h, by omega⟩
    refine ⟨_, rfl, rfl, _, rfl, ?_⟩
    rw [dec_int']
    refine ite2 (fun cw => ?_) (fun cw => ?_)
    · -- way 0
      refine ⟨by show 0 ≤ sizeLine; decide, fun e0 ne0 => ?_⟩
      refine ⟨by show 5 ≤ sizeLine; decide, fun e1 ne1 => ?_⟩
      generalize hG : upd (upd G4 e0 _) e1 _ = G5
      have S5 : StD H d sl cs.length G5 := by rw [← hG]; exact (S4.new ne0).new ne1
      have he1 : G5 e1 = some (.lst [.bl true, .non, .str "0", .ref e0, .str "all"]) := by rw [← hG]; exact upd_same
      have he0 : G5 e0 = some (.tup []) := by rw [← hG, upd_ne (ne_of_none upd_same ne1)]; exact upd_same
      have n1 : e1 ∉ [d, sl] := (S4.new ne0).nin ne1
      have n0 : e0 ∉ [d, sl] := S4.nin ne0
      clear hG
      refine S5.off c63 rfl (fun _ h => h) (by decide) (by decide) (fun G6 u S6 k6 u0 u1 => ?_)
      refine pick5 G6 _ [.bool true, .none, .str "0", .tuple [], .str "all"] u e1 S6 (SqL.of (k6 _ _ he1 n1)) (.cons (.bl _) (.cons .non (.cons (.str _) (.cons (.tup (SqT.of (k6 _ _ he0 n0)) .nil) (.cons (.str _) .nil))))) (fun a ha => ?_) rfl u0 u1
      simp only [List.mem_cons, List.not_mem_nil, or_false] at ha
      rcases ha with rfl | rfl | rfl | rfl | rfl
      · trivial
      · trivial
      · exact strI _ (by decide +kernel) (by decide)
      · rfl
      · exact strI _ (by decide +kernel) (by decide)
    have cw : way ≠ 0 := fun z => cw (decide_eq_true z)
    have wI : 0 ≤ way - 1 ∧ way - 1 < 5 := by omega
    -- the third list
    have other : ∀ (Q0 : Unit), v = v → ItD m a → tRet (tOp (rIxL K) (tLst (tCons (tVar 1) (tCons (tC (.int 0)) (tCons (tVar 3) (tCons (tTup tNil) (tCons (tC (.str "turn")) tNil)))))) (tOp (rI0 fun i j => .int (i - j)) (tVar 2) (tC (.int 1)))) { nx := fun _ H' => Q .non H', rt := Q } [some (.ref d), some v, some (.int way), some (.int far')] G4 := fun _ _ it => by
      refine ⟨_, rfl, _, rfl, by show 0 ≤ sizeLine; decide, fun e0 ne0 => ?_⟩
      refine ⟨by show 5 ≤ sizeLine; decide, fun e1 ne1 => ?_⟩
      generalize hG : upd (upd G4 e0 _) e1 _ = G5
      have s5 : Same G4 G5 := by rw [← hG]; exact (Same.new (Same.refl _) ne0).trans (Same.new (Same.refl _) ne1)
      have S5 : StD H d sl cs.length G5 := by rw [← hG]; exact (S4.new ne0).new ne1
      have he1 : G5 e1 = some (.lst [v, .int 0, .int far', .ref e0, .str "turn"]) := by rw [← hG]; exact upd_same
      have he0 : G5 e0 = some (.tup []) := by rw [← hG, upd_ne (ne_of_none upd_same ne1)]; exact upd_same
      clear hG
      refine ⟨_, rfl, _, _, rfl, rfl, ?_⟩
      refine pick5 G5 _ [a, .int 0, .int far', .tuple [], .str "turn"] _ e1 S5 (SqL.of he1) (.cons (dpS s5 Dv) (.cons (.int _) (.cons (.int _) (.cons (.tup (SqT.of he0) .nil) (.cons (.str _) .nil))))) (fun x hx => ?_) rfl wI.1 wI.2
      simp only [List.mem_cons, List.not_mem_nil, or_false] at hx
      rcases hx with rfl | rfl | rfl | rfl | rfl
      · exact it.mono (by omega)
      · trivial
      · trivial
      · rfl
      · exact strI _ (by decide +kernel) (by decide)
    cases Dv with
    | lst h t => exact it.elim
    | non =>
      refine ⟨_, rfl, rfl, _, .non, _, rfl, iteF ?_⟩
      refine ⟨_, rfl, rfl, _, .non, _, rfl, iteF ?_⟩
      exact other () rfl it
    | bl b =>
      refine ⟨_, rfl, rfl, _, .bl _, _, rfl, iteT ?_⟩
      refine ⟨_, rfl, rfl, _, .bl _, _, rfl, iteF ?_⟩
      refine ⟨_, rfl, rfl, _, .bl _, _, rfl, iteF ?_⟩
      exact other () rfl it
    | tup h t =>
      refine ⟨_, rfl, rfl, _, .tup h, _, rfl, iteF ?_⟩
      refine ⟨_, rfl, rfl, _, .tup h, _, rfl, iteF ?_⟩
      exact other () rfl it
    | int i =>
      refine ⟨_, rfl, rfl, _, .int _, _, rfl, iteT ?_⟩
      refine ⟨_, rfl, rfl, _, .int _, _, rfl, iteT ?_⟩
      refine ⟨_, rfl, _, _, rfl, rfl, _, rfl, _, _, rfl, rfl, _, rfl, _, rfl, _, _, rfl, rfl, _, rfl, _, _, rfl, rfl, _, rfl, _, _, rfl, rfl, by show 5 ≤ sizeLine; decide, fun e1 ne1 => ?_⟩
      generalize hG : upd G4 e1 _ = G5
      have S5 : StD H d sl cs.length G5 := by rw [← hG]; exact S4.new ne1
      have he1 : G5 e1 = some (.lst [.int (i + 1), .int (i - 1), .int (-1 - far'), .int (32 + far'), .int (1000 + far')]) := by rw [← hG]; exact upd_same
      clear hG
      refine ⟨_, rfl, _, _, rfl, rfl, ?_⟩
      refine pick5 G5 _ [.int (i + 1), .int (i - 1), .int (-1 - far'), .int (32 + far'), .int (1000 + far')] _ e1 S5 (SqL.of he1) (.cons (.int _) (.cons (.int _) (.cons (.int _) (.cons (.int _) (.cons (.int _) .nil))))) (fun x hx => ?_) rfl wI.1 wI.2
      simp only [List.mem_cons, List.not_mem_nil, or_false] at hx
      rcases hx with rfl | rfl | rfl | rfl | rfl <;> trivial
    | str z =>
      have zl : z.length ≤ m := it.2
      have zs : z.length ≤ sizeLine := Nat.le_trans (show _ ≤ 1000 by omega) (by decide)
      refine ⟨_, rfl, rfl, _, .str _, _, rfl, iteF ?_⟩
      refine ⟨_, rfl, rfl, _, .str _, _, rfl, iteT ?_⟩
      refine ⟨_, rfl, _, _, rfl, rfl, Nat.le_trans (show z.length + 1 ≤ 1001 by omega) (by decide), ?_⟩
      refine ⟨_, rfl, 1, rfl, _, rfl, z, rfl, zs, ?_⟩
      refine ⟨by show 5 ≤ sizeLine; decide, fun e1 ne1 => ?_⟩
      generalize hG : upd G4 e1 _ = G5
      have S5 : StD H d sl cs.length G5 := by rw [← hG]; exact S4.new ne1
      have he1 : G5 e1 = some (.lst [.str (z ++ "x"), .str (cutS z none (some (-1))), .str "", .str "pair", .str "end"]) := by rw [← hG]; exact upd_same
      clear hG
      refine ⟨_, rfl, _, _, rfl, rfl, ?_⟩
      refine pick5 G5 _ [.str (z ++ "x"), .str (cutS z none (some (-1))), .str "", .str "pair", .str "end"] _ e1 S5 (SqL.of he1) (.cons (.str _) (.cons (.str _) (.cons (.str _) (.cons (.str _) (.cons (.str _) .nil))))) (fun x hx => ?_) rfl wI.1 wI.2
      simp only [List.mem_cons, List.not_mem_nil, or_false] at hx
      rcases hx with rfl | rfl | rfl | rfl | rfl
      · exact ⟨add_ok it.1 (by decide +kernel), by rw [add_len]; exact Nat.add_le_add zl (by decide)⟩
      · exact ⟨cut_ok it.1, Nat.le_trans cut_len (by omega)⟩
      · exact strI _ (by decide +kernel) (by decide)
      · exact strI _ (by decide +kernel) (by decide)
      · exact strI _ (by decide +kernel) (by decide)
end
end SB

set_option Elab.async false
set_option linter.all false
set_option maxRecDepth 100000
set_option maxHeartbeats 1000000
namespace SB
open PySem L2 StX
section
variable {P : Program} {w : World} {K : PySem.W.Frag} {mg : Str → Option Value} {base : Heap} {H H' : Hp}
theorem dpA_take : ∀ {vs : List V} {ds : List PyData}, DpAll K H vs ds → ∀ n, DpAll K H (vs.take n) (ds.take n)
  | _, _, .nil, n => by rw [List.take_nil, List.take_nil]; exact .nil
  | _, _, .cons h t, 0 => .nil
  | _, _, .cons h t, n + 1 => .cons h (dpA_take t n)
theorem dpA_drop : ∀ {vs : List V} {ds : List PyData}, DpAll K H vs ds → ∀ n, DpAll K H (vs.drop n) (ds.drop n)
  | _, _, .nil, n => by rw [List.drop_nil, List.drop_nil]; exact .nil
  | _, _, .cons h t, 0 => .cons h t
  | _, _, .cons h t, n + 1 => dpA_drop t n
theorem dpA_app : ∀ {vs us : List V} {ds es : List PyData}, DpAll K H vs ds → DpAll K H us es → DpAll K H (vs ++ us) (ds ++ es)
  | _, _, _, _, .nil, h => h
  | _, _, _, _, .cons h t, g => .cons h (dpA_app t g)
theorem dpA_len : ∀ {vs : List V} {ds : List PyData}, DpAll K H vs ds → vs.length = ds.length
  | _, _, .nil => rfl
  | _, _, .cons h t => congrArg (· + 1) (dpA_len t)
def GT (K : PySem.W.Frag) (te : TE) (σ : L2.St) (H : Hp) (ds : List PyData) : Prop := ∀ Q : VK, (∀ H' p vs, Same H H' → SqT K H' p vs → DpAll K H' vs ds → Q (.ref p) H') → te σ H Q
variable {σ : L2.St} {ta tb tc : TE} {a : Addr} {xs : List V} {ds es : List PyData} {n : Nat}
theorem sl_midT {Q : VK} (hn : n + 1 ≤ xs.length) (h : SqT K H a xs) (q : ∀ H' p, SqT K H' p ((xs.drop n).take 1) → Same H H' → Q (.ref p) H') : rSlA K (.ref a) (some (n : Int)) (some ((n : Int) + 1)) H Q := by
  have e : ((n : Int) + 1) = ((n + 1 : Nat) : Int) := by omega
  rw [e]
  refine ⟨a, xs, rfl, h, fun hw => ?_, fun _ p np => ?_⟩
  · refine q H a ?_ (Same.refl _)
    have h1 := hw.1
    have h2 := hw.2
    rw [HT.sIx_nat] at h1 h2
    have e1 : n = 0 := by omega
    have e2 : xs.length = 1 := by omega
    rw [e1, List.drop_zero, List.take_of_length_le (by omega)]
    exact h
  · refine q _ p ?_ (Same.new (Same.refl _) np)
    rw [cut_mid hn]
    exact SqT.of upd_same
theorem gt_hi (h1 : ∀ (H1 : Hp) (Q : VK), Q (.ref a) H1 → ta σ H1 Q) (h2 : EvI tb σ (n : Int)) (h : SqT K H a xs) (D : DpAll K H xs ds) : GT K (tSl (rSlA K) ta tNoPart (tPart tb)) σ H (ds.take n) :=
  fun Q q => h1 _ _ (h2 _ _ ⟨_, rfl, sl_hiT h (fun H' p h' s => q H' p _ s h' (dpA_take (dpSs s D) n))⟩)
theorem gt_lo (h1 : ∀ (H1 : Hp) (Q : VK), Q (.ref a) H1 → ta σ H1 Q) (h2 : EvI tb σ (n : Int)) (h : SqT K H a xs) (D : DpAll K H xs ds) : GT K (tSl (rSlA K) ta (tPart tb) tNoPart) σ H (ds.drop n) :=
  fun Q q => h1 _ _ (h2 _ _ ⟨_, rfl, sl_loT h (fun H' p h' s => q H' p _ s h' (dpA_drop (dpSs s D) n))⟩)
theorem gt_mid (h1 : ∀ (H1 : Hp) (Q : VK), Q (.ref a) H1 → ta σ H1 Q) (h2 : EvI tb σ (n : Int)) (h3 : EvI tc σ ((n : Int) + 1)) (h : SqT K H a xs) (D : DpAll K H xs ds) (hn : n + 1 ≤ ds.length) : GT K (tSl (rSlA K) ta (tPart tb) (tPart tc)) σ H ((ds.drop n).take 1) :=
  fun Q q => h1 _ _ (h2 _ _ ⟨_, rfl, h3 _ _ ⟨_, rfl, sl_midT (by rw [dpA_len D]; exact hn) h (fun H' p h' s => q H' p _ s h' (dpA_take (dpA_drop (dpSs s D) n) 1))⟩⟩)
theorem gt_op {r : R2} {Q : VK} (h : ta σ H fun x H1 => tb σ H1 fun y H2 => r x y H2 Q) : tOp r ta tb σ H Q := h
theorem gt_cat (h1 : GT K ta σ H ds) (h2 : ∀ H', Same H H' → GT K tb σ H' es) (hl : ds.length + es.length ≤ sizeLine) : GT K (tOp (rCatA K) ta tb) σ H (ds ++ es) :=
  fun Q q => h1 _ (fun H1 p1 vs1 s1 t1 D1 => h2 H1 s1 _ (fun H2 p2 vs2 s2 t2 D2 => by
    have D1' := dpSs s2 D1
    exact cat_anyT (Same.tup s2 t1) t2 (by rw [dpA_len D1', dpA_len D2]; exact hl) (fun H3 p3 t3 s3 => q H3 p3 _ ((s1.trans s2).trans s3) t3 (dpA_app (dpSs s3 D1') (dpSs s3 D2)))))
theorem StD.sm1 {Hx Hy : Hp} {d sl : Addr} {n : Nat} (h : StD H d sl n Hx) (s : Same Hx Hy) : StD H d sl n Hy := by
  obtain ⟨f, p, cs, D, c, k⟩ := h
  exact ⟨f, p, cs, D.same s, c, k.trans (Kept.same s)⟩
def sp_l_bent_row (K : PySem.W.Frag) : Sp := fun vs H Q _ => ∃ (d sl : Addr) (f p : Int) (cs : List Int) (v : V) (ds : List PyData) (m : Nat), vs = [.ref d, v] ∧ DiceAt H d sl f p cs ∧ cs.length ≤ 63 ∧ Dp K H v (.tuple ds) ∧ RwD m (.tuple ds) ∧ ds ≠ [] ∧ m ≤ 900 ∧
  ∀ (Hy : Hp) (v' : V) (a' : PyData), StD H d sl cs.length Hy → Dp K Hy v' a' → RwD (m + 4) a' → Q v' Hy
theorem ok_l_bent_row (T : T w K mg) : FnR P w K mg base CX0 3 (He.ga K "_law_bent_row") (sp_l_bent_row K) := by
  have F_l_off : FnR P w K mg base CX0 1 _ _ := ok_l_off T
  have F_l_odd : FnR P w K mg base CX0 2 _ _ := ok_l_odd T
  obtain ⟨fd, F⟩ := T.f_l_bent_row
  refine F.r sc_l_bent_row (fun _ _ _ _ _ _ us hl => match us, hl with | [_, _], _ => rfl) (fun vs H Q E h => ?_) (fun cdv A outer s H vs Q E hr h => ?_)
  · obtain ⟨_, _, _, _, _, _, _, _, rfl, _⟩ := h
    rfl
  · obtain ⟨d, sl, f, p, cs, v, ds, m, rfl, D, c63, Dv, it, ne, m1, q⟩ := h
    refine ⟨_, (pss_cons (ps_par rfl sc_l_bent_row.nd (i := 2) (j := 3) rfl rfl (by decide) rfl rfl (pa_cons (pe_callR F_l_off (hr.mono (by decide)) rfl T.g_l_off T.k_l_off (pa_cons (pv 0) (pa_cons pe_int pa_nil))) (pa_cons (pe_callR F_l_off (hr.mono (by decide)) rfl T.g_l_off T.k_l_off (pa_cons (pv 0) (pa_cons (pe_callB call_len_seq rfl T.u_len PySem.boot_len (pa_cons (pv 1) pa_nil)) pa_nil))) pa_nil)) rfl)
  (pss_cons (ps_if (pt_cmpR op_eq (pv 2) pe_int (nomark _))
  (pss_one (ps_ret (pe_op op_catA (pe_slice sl_tupA (pv 1) po_none (po_some (pv 3))) (pe_slice sl_tupA (pv 1) (po_some (pe_op op_add (pv 3) pe_int)) po_none))))
  pss_nil)
  (pss_cons (ps_if (pt_cmpR op_eq (pv 2) pe_int (nomark _))
  (pss_one (ps_ret (pe_op op_catA (pe_op op_catA (pe_slice sl_tupA (pv 1) po_none (po_some (pv 3))) (pe_slice sl_tupA (pv 1) (po_some (pv 3)) (po_some (pe_op op_add (pv 3) pe_int)))) (pe_slice sl_tupA (pv 1) (po_some (pv 3)) po_none))))
  pss_nil)
  (pss_one (ps_ret (pe_op op_catA (pe_op op_catA (pe_slice sl_tupA (pv 1) po_none (po_some (pv 3))) (pe_tup (pa_cons (pe_callR F_l_odd (hr.mono (by decide)) rfl T.g_l_odd T.k_l_odd (pa_cons (pv 0) (pa_cons (pe_ix ix_tup (pv 1) (pv 3) (fun _ _ => rfl)) pa_nil))) pa_nil))) (pe_slice sl_tupA (pv 1) (po_some (pe_op op_add (pv 3) pe_int)) po_none))))))), ?_⟩
    have S0 : StD H d sl cs.length H := ⟨f, p, cs, D, rfl, Kept.refl _ _⟩
    have pl0 : Pl 2 (.tuple ds) := it.pl 0
    have lm : ds.length ≤ m := it.1
    have l0 : 0 < ds.length := List.length_pos_iff.mpr ne
    refine S0.off c63 rfl (fun _ h => h) (by decide) (by decide) (fun G1 way S1 k1 w0 w1 => ?_)
    have Dv := S0.dp k1 pl0 Dv
    obtain ⟨pv_, xs, rfl, hx, Dx⟩ : ∃ a xs, v = .ref a ∧ SqT K G1 a xs ∧ DpAll K G1 xs ds := by
      cases Dv with
      | tup h t => exact ⟨_, _, rfl, h, t⟩
    refine S1.off c63 rfl (fun _ h => ⟨_, rfl, _, _, rfl, .inr hx, by rw [dpA_len Dx]; exact h⟩) (by omega) (by omega) (fun G2 at_ S2 k2 a0 a1 => ?_)
    have Dv := S1.dp k2 pl0 (.tup hx Dx)
    clear hx Dx
    obtain ⟨xs, hx, Dx⟩ : ∃ xs, SqT K G2 pv_ xs ∧ DpAll K G2 xs ds := by
      cases Dv with
      | tup h t => exact ⟨_, h, t⟩
    obtain ⟨n, rfl⟩ : ∃ n : Nat, at_ = (n : Int) := ⟨at_.toNat, by omega⟩
    have hn : n < ds.length := by omega
    have sz : ∀ k : Nat, k ≤ 2000 → k ≤ sizeLine := fun k h => Nat.le_trans h (by decide)
    have row : ∀ (σ : L2.St), σ[1]? = some (some (.ref pv_)) → ∀ (H1 : Hp) (Q : VK), Q (.ref pv_) H1 → tVar 1 σ H1 Q := fun σ e H1 Q q => ⟨_, e, q⟩
    have at0 : ∀ (σ : L2.St), σ[3]? = some (some (.int (n : Int))) → EvI (tVar 3) σ (n : Int) := fun σ e H1 Q q => ⟨_, e, q⟩
    have at1 : ∀ (σ : L2.St), σ[3]? = some (some (.int (n : Int))) → EvI (tOp (rI0 fun i j => .int (i + j)) (tVar 3) (tC (.int 1))) σ ((n + 1 : Nat) : Int) := fun σ e H1 Q q => ⟨_, e, _, _, rfl, rfl, q⟩
    have fin : ∀ (H' : Hp) (p : Addr) (vs : List V) (es : List PyData), Same G2 H' → SqT K H' p vs → DpAll K H' vs es → es.length ≤ m + 4 → (∀ e ∈ es, ItD (m + 4) e) → Q (.ref p) H' := fun H' p vs es s t D l a => q H' _ (.tuple es) (S2.sm1 s) (.tup t D) ⟨l, a⟩
    have itm : ∀ e ∈ ds, ItD (m + 4) e := fun e he => (it.2 e he).mono (by omega)
    dsimp only [tNext, tSeq, tAsg, gName, tRet, List.set]
    refine ⟨_, _, rfl, ?_⟩
    refine ⟨_, rfl, rfl, _, rfl, ?_⟩
    rw [dec_int']
    refine ite2 (fun cw => ?_) (fun cw => ?_)
    · refine gt_cat (gt_hi (row _ rfl) (at0 _ rfl) hx Dx) (fun H3 s3 => gt_lo (row _ rfl) (at1 _ rfl) (Same.tup s3 hx) (dpSs s3 Dx)) (sz _ (by rw [List.length_take, List.length_drop]; omega)) _ (fun H3 p3 vs3 s3 t3 D3 => fin H3 p3 vs3 _ s3 t3 D3 ?_ ?_)
      · rw [List.length_append, List.length_take, List.length_drop]; omega
      · intro e he
        rcases List.mem_append.mp he with he | he
        · exact itm e (List.mem_of_mem_take he)
        · exact itm e (List.mem_of_mem_drop he)
    refine ⟨_, rfl, rfl, _, rfl, ?_⟩
    rw [dec_int']
    refine ite2 (fun cw2 => ?_) (fun cw2 => ?_)
    · refine gt_cat (gt_cat (gt_hi (row _ rfl) (at0 _ rfl) hx Dx) (fun H3 s3 => gt_mid (row _ rfl) (at0 _ rfl) (at1 _ rfl) (Same.tup s3 hx) (dpSs s3 Dx) hn) (sz _ ?_)) (fun H3 s3 => gt_lo (row _ rfl) (at0 _ rfl) (Same.tup s3 hx) (dpSs s3 Dx)) (sz _ ?_) _ (fun H3 p3 vs3 s3 t3 D3 => fin H3 p3 vs3 _ s3 t3 D3 ?_ ?_)
      · rw [List.length_take, List.length_take, List.length_drop]; omega
      · rw [List.length_append, List.length_take, List.length_take, List.length_drop]; omega
      · rw [List.length_append, List.length_append, List.length_take, List.length_take, List.length_drop]; omega
      · intro e he
        rcases List.mem_append.mp he with he | he
        · rcases List.mem_append.mp he with he | he
          · exact itm e (List.mem_of_mem_take he)
          · exact itm e (List.mem_of_mem_drop (List.mem_of_mem_take he))
        · exact itm e (List.mem_of_mem_drop he)
    clear row
    obtain ⟨e0, he0⟩ : ∃ e, ds[n]? = some e := ⟨_, List.getElem?_eq_getElem hn⟩
    obtain ⟨y, hy⟩ : ∃ y, xs[n]? = some y := ⟨_, List.getElem?_eq_getElem (by rw [dpA_len Dx]; exact hn)⟩
    have De := (dpAll_at Dx).2 n y e0 hy he0
    have ie := it.2 e0 (List.mem_of_getElem? he0)
    dsimp only [tNext, tRet]
    refine gt_op ?_
    refine gt_op ?_
    refine gt_hi (ta := tVar 1) (tb := tVar 3) (fun _ _ q => ⟨_, rfl, q⟩) (at0 _ rfl) hx Dx _ (fun H3 p3 vs3 s3 t3 D3 => ?_)
    have S3 := S2.sm1 s3
    obtain ⟨f3, q3, cs3, DD3, c3, k3⟩ := S3
    refine ⟨_, rfl, _, rfl, _, rfl, _, _, _, y, rfl, rfl, Same.tup s3 hx, by rw [at_eqJ (by rw [dpA_len Dx]; exact hn)]; exact hy, ?_⟩
    refine ⟨d, sl, f3, q3, cs3, y, e0, m, rfl, DD3, by omega, dpS s3 De, ie, by omega, fun Hy v' a' Sy Dy iy => ?_⟩
    obtain ⟨f4, q4, cs4, DD4, c4, k4⟩ := Sy
    have S4 : StD H d sl cs.length Hy := ⟨f4, q4, cs4, DD4, c4.trans c3, k3.trans k4⟩
    have hxy : Dp K Hy (.ref pv_) (.tuple ds) := dp_dice DD3 k4 (.tup (Same.tup s3 hx) (dpSs s3 Dx)) pl0
    have ht3 : Dp K Hy (.ref p3) (.tuple (ds.take n)) := dp_dice DD3 k4 (.tup t3 D3) (RwD.pl (m := m) (d := .tuple (ds.take n)) 0 ⟨by rw [List.length_take]; omega, fun e he => it.2 e (List.mem_of_mem_take he)⟩)
    refine ⟨by show 1 ≤ sizeLine; decide, fun e1 ne1 => ?_⟩
    generalize hG : upd Hy e1 _ = G5
    have s5 : Same Hy G5 := by rw [← hG]; exact Same.new (Same.refl _) ne1
    have he1 : G5 e1 = some (.tup [v']) := by rw [← hG]; exact upd_same
    clear hG
    obtain ⟨us, hu, Du⟩ : ∃ us, SqT K Hy p3 us ∧ DpAll K Hy us (ds.take n) := by
      cases ht3 with
      | tup h t => exact ⟨_, h, t⟩
    obtain ⟨zs, hz, Dz⟩ : ∃ zs, SqT K Hy pv_ zs ∧ DpAll K Hy zs ds := by
      cases hxy with
      | tup h t => exact ⟨_, h, t⟩
    have hlu : us.length ≤ n := by rw [dpA_len Du, List.length_take]; omega
    refine cat_anyT (Same.tup s5 hu) (SqT.of he1) (sz _ (by show us.length + 1 ≤ 2000; omega)) (fun H6 p6 t6 s6 => ?_)
    have s56 := s5.trans s6
    refine gt_lo (ta := tVar 1) (fun _ _ q => ⟨_, rfl, q⟩) (at1 _ rfl) (Same.tup s56 hz) (dpSs s56 Dz) _ (fun H7 p7 vs7 s7 t7 D7 => ?_)
    have l7 : vs7.length ≤ ds.length := by rw [dpA_len D7, List.length_drop]; omega
    refine cat_anyT (Same.tup s7 t6) t7 (sz _ (by rw [List.length_append]; show us.length + 1 + vs7.length ≤ 2000; omega)) (fun H8 p8 t8 s8 => ?_)
    have s78 := s7.trans s8
    have s58 := s56.trans s78
    refine q H8 _ (.tuple ((ds.take n ++ [a']) ++ ds.drop (n + 1))) (S4.sm1 s58) (.tup t8 (dpA_app (dpA_app (dpSs s58 Du) (.cons (dpS s58 Dy) .nil)) (dpSs s8 D7))) ⟨?_, fun e he => ?_⟩
    · rw [List.length_append, List.length_append, List.length_take, List.length_drop]
      show min n ds.length + 1 + _ ≤ m + 4
      omega
    · rcases List.mem_append.mp he with he | he
      · rcases List.mem_append.mp he with he | he
        · exact itm e (List.mem_of_mem_take he)
        · have he : e = a' := by simpa using he
          rw [he]
          exact iy
      · exact itm e (List.mem_of_mem_drop he)
end
end SB

set_option Elab.async false
set_option linter.all false
set_option maxRecDepth 100000
set_option maxHeartbeats 1000000
namespace SB
open PySem PySem.Spec PyProof.Rows L2 LamX StX CloX
section
variable {P : Program} {w : World} {K : PySem.W.Frag} {mg : Str → Option Value} {base : Heap} {H H' : Hp} {σ : L2.St} {d sl : Addr}
def isLst : HO → Bool
  | .lst _ => true | _ => false
theorem TabS.keep1 {F : List Addr} {P : Addr} {q : Str} (t : TabS H P q) (kp : Kept F H H') (hn : ∀ b ∈ F, ∃ u, H b = some u ∧ isLst u = true) : TabS H' P q := by
  obtain ⟨ps, h1, h2, h3⟩ := t
  have out : ∀ {b : Addr} {o : HO}, H b = some o → isLst o = false → H' b = some o := fun {b o} e pl => kp _ _ e (fun z => by
    obtain ⟨u, hu, pu⟩ := hn _ z
    rw [e] at hu
    cases hu
    rw [pl] at pu
    cases pu)
  refine ⟨ps, out h1 rfl, h2, fun pos cv hc => ?_⟩
  obtain ⟨c, e1, e2⟩ := h3 pos cv hc
  exact ⟨c, e1, out e2 rfl⟩
theorem Tabs.keepP {F : List Addr} (t : Tabs (tz K) H) (kp : Kept F H H') (hn : ∀ b ∈ F, ∃ u, H b = some u ∧ isLst u = true) : Tabs (tz K) H' := fun p hp => TabS.keep1 (t p hp) kp hn
def WD (K : PySem.W.Frag) (d sl : Addr) (H : Hp) : Prop := ∃ f p cs, DiceAt H d sl f p cs ∧ cs.length ≤ 63 ∧ Tabs (tz K) H
theorem WD.same (h : WD K d sl H) (s : Same H H') : WD K d sl H' := by
  obtain ⟨f, p, cs, D, c, t⟩ := h
  exact ⟨f, p, cs, D.same s, c, Tabs.ext t s⟩
theorem WD.ext (h : WD K d sl H) (x : ExtN H H') (t : Tabs (tz K) H') : WD K d sl H' := by
  obtain ⟨f, p, cs, D, c, _⟩ := h
  exact ⟨f, p, cs, ⟨x _ _ D.ob nt_lstC, x _ _ D.ls nt_lstC, D.f0, D.f1, D.p0, D.ne⟩, c, t⟩
theorem WD.nin (h : WD K d sl H) {y : Addr} (hy : H y = none) : y ∉ [d, sl] := by
  obtain ⟨f, p, cs, D, c, _⟩ := h
  exact D.ned hy
theorem WD.kept {f p f' p' : Int} {cs cs' : List Int} (t : Tabs (tz K) H) (D : DiceAt H d sl f p cs) (D' : DiceAt H' d sl f' p' cs') (c : cs'.length ≤ 63) (k : Kept [d, sl] H H') : WD K d sl H' :=
  ⟨f', p', cs', D', c, Tabs.keepP t k (fun b hb => by
    have e : b = d ∨ b = sl := by simpa using hb
    rcases e with rfl | rfl
    · exact ⟨_, D.ob, rfl⟩
    · exact ⟨_, D.ls, rfl⟩)⟩
def DK (K : PySem.W.Frag) (H H' : Hp) : Prop := ∀ (n : Nat) (v : V) (a : PyData), Pl n a → Dp K H v a → Dp K H' v a
theorem DK.same (s : Same H H') : DK K H H' := fun _ _ _ _ D => dpS s D
theorem DK.trans {H'' : Hp} (a : DK K H H') (b : DK K H' H'') : DK K H H'' := fun n v x pl D => b n v x pl (a n v x pl D)
theorem wd_off {i : Nat} {ta : TE} {m : Int} {Q : VK} (W : WD K d sl H) (hσ : σ[i]? = some (some (.ref d))) (ha : ∀ Q2 : VK, Q2 (.int m) H → ta σ H Q2) (m0 : 0 < m) (m1 : m < 1073741824)
    (q : ∀ Hy v, WD K d sl Hy → Kept [d, sl] H Hy → DK K H Hy → 0 ≤ v → v < m → Q (.int v) Hy) : tCallR (sp_l_off K) (tCons (tVar i) (tCons ta tNil)) σ H Q := by
  obtain ⟨f, p, cs, D, c, t⟩ := W
  have S0 : StD H d sl cs.length H := ⟨f, p, cs, D, rfl, Kept.refl _ _⟩
  refine S0.off c hσ ha m0 m1 (fun Hy v S k v0 v1 => ?_)
  obtain ⟨f', p', cs', D', c', _⟩ := S
  exact q Hy v (WD.kept t D D' (by omega) k) k (fun n v a pl Dv => dp_dice D k Dv pl) v0 v1
def vD : V → PyData
  | .str z => .str z
  | .int i => .int i
  | _ => .none
def rwD (r : Row) : PyData := .tuple (r.vs.map vD)
theorem dp_vD {t : Addr} {r : Row} (h : SqT K H t r.vs) : Dp K H (.ref t) (rwD r) := by
  refine .tup h ?_
  cases r <;> first
    | exact .cons (.str _) (.cons (.int _) (.cons (.int _) .nil))
    | exact .cons (.str _) (.cons (.int _) .nil)
    | exact .cons (.str _) .nil
theorem rw_rowD {r : Row} : RwD 5 (rwD r) := by
  refine ⟨?_, ?_⟩
  · rw [List.length_map]
    cases r <;> first | exact (by decide : 3 ≤ 5) | exact (by decide : 2 ≤ 5) | exact (by decide : 1 ≤ 5)
  · have st : ∀ z : Str, PyData.canLay0 (.str z) = true → z.length ≤ 5 → ItD 5 (.str z) := fun z h l => ⟨h, l⟩
    intro x hx
    cases r <;> (simp only [Row.vs, List.map_cons, List.map_nil, vD, List.mem_cons, List.not_mem_nil, or_false] at hx) <;>
      first
        | (rcases hx with rfl | rfl | rfl <;> first | exact st _ (by decide +kernel) (by decide) | trivial)
        | (rcases hx with rfl | rfl <;> first | exact st _ (by decide +kernel) (by decide) | trivial)
        | (subst hx; exact st _ (by decide +kernel) (by decide))
theorem dp_rows : ∀ {rs : List Addr} {prog : List Row}, rs.length = prog.length → (∀ (j : Nat) (t : Addr) (r : Row), rs[j]? = some t → prog[j]? = some r → SqT K H t r.vs) → DpAll K H (rs.map V.ref) (prog.map rwD)
  | [], [], _, _ => .nil
  | [], _ :: _, h, _ => by simp at h
  | _ :: _, [], h, _ => by simp at h
  | t :: rs, r :: prog, h, g => .cons (dp_vD (g 0 t r rfl rfl)) (dp_rows (by simpa using h) (fun j t' r' e1 e2 => g (j + 1) t' r' e1 e2))
structure PD (K : PySem.W.Frag) (H : Hp) (v : V) (ds : List PyData) (m : Nat) : Prop where
  dp : Dp K H v (.tuple ds)
  l0 : 0 < ds.length
  l1 : ds.length ≤ 40
  rw : ∀ x ∈ ds, RwD m x
theorem PD.mono {v : V} {ds : List PyData} {m n : Nat} (h : PD K H v ds m) (l : m ≤ n) : PD K H v ds n := ⟨h.dp, h.l0, h.l1, fun x hx => (h.rw x hx).mono l⟩
theorem PD.pl {v : V} {ds : List PyData} {m : Nat} (h : PD K H v ds m) : Pl 61 (.tuple ds) := .tup 60 (fun x hx => (h.rw x hx).pl 58)
theorem PD.dk {v : V} {ds : List PyData} {m : Nat} (h : PD K H v ds m) (k : DK K H H') : PD K H' v ds m := ⟨k _ _ _ h.pl h.dp, h.l0, h.l1, h.rw⟩
theorem PD.same {v : V} {ds : List PyData} {m : Nat} (h : PD K H v ds m) (s : Same H H') : PD K H' v ds m := h.dk (DK.same s)
theorem PD.at {v : V} {ds : List PyData} {m : Nat} (h : PD K H v ds m) : ∃ a xs, v = .ref a ∧ SqT K H a xs ∧ DpAll K H xs ds := by
  have h1 := h.dp
  cases h1 with
  | tup h2 t => exact ⟨_, _, rfl, h2, t⟩
theorem pd_prog {pa : Addr} {rs : List Addr} {prog : List Row} (Pr : ProgAt K H pa rs prog) (l0 : 0 < prog.length) (l1 : prog.length ≤ 40) : PD K H (.ref pa) (prog.map rwD) 5 :=
  ⟨.tup Pr.tup (dp_rows Pr.len Pr.at_), by rw [List.length_map]; exact l0, by rw [List.length_map]; exact l1, fun x hx => by
    obtain ⟨r, _, rfl⟩ := List.mem_map.mp hx
    exact rw_rowD⟩
theorem gt_tup1 {i : Nat} {v : V} {a : PyData} (h : σ[i]? = some (some v)) (D : Dp K H v a) : GT K (tTup (tCons (tVar i) tNil)) σ H [a] := fun Q q => ⟨_, h, by show 1 ≤ sizeLine; decide, fun p np => by
  have s : Same H (upd H p (.tup [v])) := Same.new (Same.refl _) np
  exact q _ p [v] s (SqT.of upd_same) (.cons (dpS s D) .nil)⟩
theorem upd_prog {i j l n m : Nat} {v su : V} {ds : List PyData} {sd : PyData} {Q : VK} (h3 : σ[i]? = some (some v)) (h5 : σ[j]? = some (some (.int (n : Int)))) (h7 : σ[l]? = some (some su)) (D : PD K H v ds m) (Ds : Dp K H su sd) (ms : RwD m sd) (hn : n < ds.length)
    (q : ∀ H' p, Same H H' → PD K H' (.ref p) ((ds.take n ++ [sd]) ++ ds.drop (n + 1)) m → Q (.ref p) H') :
    tOp (rCatA K) (tOp (rCatA K) (tSl (rSlA K) (tVar i) tNoPart (tPart (tVar j))) (tTup (tCons (tVar l) tNil))) (tSl (rSlA K) (tVar i) (tPart (tOp (rI0 fun i j => .int (i + j)) (tVar j) (tC (.int 1)))) tNoPart) σ H Q := by
  obtain ⟨a, xs, rfl, hx, Dx⟩ := D.at
  have l1 := D.l1
  have sz : ∀ k : Nat, k ≤ 2000 → k ≤ sizeLine := fun k h => Nat.le_trans h (by decide)
  have ll : ((ds.take n ++ [sd]) ++ ds.drop (n + 1)).length = ds.length := by
    rw [List.length_append, List.length_append, List.length_take, List.length_drop]
    show min n ds.length + 1 + _ = _
    omega
  refine gt_cat (ds := ds.take n ++ [sd]) (es := ds.drop (n + 1)) (gt_cat (ds := ds.take n) (es := [sd]) (gt_hi (ta := tVar i) (tb := tVar j) (fun _ _ q => ⟨_, h3, q⟩) (fun _ _ q => ⟨_, h5, q⟩) hx Dx) (fun H3 s3 => gt_tup1 h7 (dpS s3 Ds)) (sz _ ?_)) (fun H3 s3 => gt_lo (ta := tVar i) (n := n + 1) (fun _ _ q => ⟨_, h3, q⟩) (fun _ _ q => ⟨_, h5, _, _, rfl, rfl, q⟩) (Same.tup s3 hx) (dpSs s3 Dx)) (sz _ ?_) Q (fun H4 p4 vs4 s4 t4 D4 => q H4 p4 s4 ⟨.tup t4 D4, by rw [ll]; exact D.l0, by rw [ll]; exact l1, fun x hx => ?_⟩)
  · rw [List.length_take]
    show min n ds.length + 1 ≤ 2000
    omega
  · rw [← List.length_append, ll]
    omega
  · rcases List.mem_append.mp hx with hx | hx
    · rcases List.mem_append.mp hx with hx | hx
      · exact D.rw x (List.mem_of_mem_take hx)
      · have hx : x = sd := by simpa using hx
        rw [hx]
        exact ms
    · exact D.rw x (List.mem_of_mem_drop hx)
theorem dpA_rep {xs : List V} {ds : List PyData} (D : DpAll K H xs ds) : ∀ n : Nat, DpAll K H (List.replicate n xs).flatten (List.replicate n ds).flatten
  | 0 => .nil
  | n + 1 => by
    rw [List.replicate_succ, List.replicate_succ, List.flatten_cons, List.flatten_cons]
    exact dpA_app D (dpA_rep D n)
theorem rep_len {α : Type} (xs : List α) : ∀ n : Nat, (List.replicate n xs).flatten.length = n * xs.length
  | 0 => by simp
  | n + 1 => by
    rw [List.replicate_succ, List.flatten_cons, List.length_append, rep_len xs n, Nat.succ_mul, Nat.add_comm]
theorem rep_mem {α : Type} {xs : List α} {x : α} : ∀ n : Nat, x ∈ (List.replicate n xs).flatten → x ∈ xs
  | 0, h => by cases h
  | n + 1, h => by
    rw [List.replicate_succ, List.flatten_cons] at h
    exact (List.mem_append.mp h).elim id (rep_mem n)
def Last (K : PySem.W.Frag) (H : Hp) (v : V) (d : PyData) : Prop := Dp K H v d ∧ Pl 61 d ∧ tupLen d ≤ 2000
theorem DoorClo.ext {k : Nat} {v : V} {dd : PyData} {wl t f : Addr} (h : DoorClo P w K mg base k v dd wl t H f) (x : ExtN H H') : DoorClo P w K mg base k v dd wl t H' f := by
  obtain ⟨F, B, h1, h2, h3⟩ := h
  refine ⟨F, B, fnAt_ext h1 x, ⟨h2.len, h2.has, h2.inj, fun i y v c e1 e2 e3 => ?_, fun c hc => ?_⟩, h3⟩
  · obtain ⟨oc, e⟩ := h2.val i y v c e1 e2 e3
    exact ⟨oc, x _ _ e (fun ps z => by cases z)⟩
  · obtain ⟨oc, v, e⟩ := h2.frz c hc
    exact ⟨oc, v, x _ _ e (fun ps z => by cases z)⟩
mutual
theorem dpX (s : ExtN H H') : ∀ {v : V} {d : PyData}, Dp K H v d → Dp K H' v d
  | _, _, .non => .non
  | _, _, .bl b => .bl b
  | _, _, .int i => .int i
  | _, _, .str x => .str x
  | _, _, .lst h a => .lst (by
      rcases h with (h | ⟨o, h⟩) | h
      · exact .inl (.inl (s _ _ h (fun ps z => by cases z)))
      · exact .inl (.inr ⟨o, s _ _ h (fun ps z => by cases z)⟩)
      · exact .inr h) (dpXs s a)
  | _, _, .tup h a => .tup (by
      rcases h with (h | ⟨o, h⟩) | h
      · exact .inl (.inl (s _ _ h (fun ps z => by cases z)))
      · exact .inl (.inr ⟨o, s _ _ h (fun ps z => by cases z)⟩)
      · exact .inr h) (dpXs s a)
theorem dpXs (s : ExtN H H') : ∀ {vs : List V} {ds : List PyData}, DpAll K H vs ds → DpAll K H' vs ds
  | _, _, .nil => .nil
  | _, _, .cons h t => .cons (dpX s h) (dpXs s t)
end
theorem DData.ext {v : V} {dd : PyData} {wl t : Addr} (D : DData K H v dd wl t) (x : ExtN H H') : DData K H' v dd wl t := ⟨dpX x D.dp, D.pl, x _ _ D.w nt_lstC, x _ _ D.t (fun ps z => by cases z)⟩
def DC (P : Program) (w : World) (K : PySem.W.Frag) (mg : Str → Option Value) (base : Heap) (v : V) (dd : PyData) (H : Hp) (f : Addr) : Prop := ∃ wl t, DoorClo P w K mg base 9 v dd wl t H f ∧ DData K H v dd wl t
theorem DC.ext {v : V} {dd : PyData} {f : Addr} (h : DC P w K mg base v dd H f) (x : ExtN H H') : DC P w K mg base v dd H' f := by
  obtain ⟨wl, t, a, b⟩ := h
  exact ⟨wl, t, a.ext x, b.ext x⟩
theorem fnAt_put {R f : Addr} {xs : List V} {o : HO} {F : Clo} (h : FnAt H f F) (hR : H R = some (.lst xs)) : FnAt (upd H R o) f F := by
  have ne : ∀ {b : Addr} {u : HO}, H b = some u → u ≠ .lst xs → b ≠ R := fun {b u} e n z => by
    rw [z, hR] at e
    exact n (Option.some.inj e).symm
  obtain ⟨ys, D⟩ := h.dfl
  refine ⟨by rw [upd_ne (ne h.fn (fun z => by unfold FnV at z; cases z))]; exact h.fn, by rw [upd_ne (ne h.code (fun z => by unfold CodeO at z; cases z))]; exact h.code, ys, ?_⟩
  cases D with
  | none e b => exact .none e b
  | one e h b l => exact .one e (by rw [upd_ne (ne h (fun z => by cases z))]; exact h) b l
theorem Tabs.put1 {R : Addr} {xs : List V} {o : HO} (t : Tabs (tz K) H) (hR : H R = some (.lst xs)) : Tabs (tz K) (upd H R o) := Tabs.keepP (F := [R]) t ((Kept.refl _ _).put (by simp)) (fun b hb => by
  rw [List.mem_singleton.mp hb]
  exact ⟨_, hR, rfl⟩)
theorem extN_put {H0 : Hp} {R : Addr} {o : HO} (x : ExtN H0 H) (h0 : H0 R = none) : ExtN H0 (upd H R o) := fun b u e n => by
  rw [upd_ne (ne_of_none e h0)]
  exact x b u e n
theorem back_same {cells : List (Str × Addr)} {N ns : List Str} {HP : Hp} (S : Shows cells N ns σ H HP) (s : Same HP H') : Same H (dropC (cellsIn cells ns) H') := fun b o e => by
  have nb : b ∉ cellsIn cells ns := fun z => by rw [S.non b z] at e; cases e
  rw [drop_out nb]
  exact s _ _ (S.ext b o e)
theorem dueV (dd : PyData) : (oN (firstRow dd) = .non ∧ dueZ dd = "works" ∧ dueI dd = 0) ∨ ∃ i : Nat, oN (firstRow dd) = .int (i : Int) ∧ dueZ dd = "program" ∧ dueI dd = (i : Int) := by
  unfold dueZ dueI
  cases h : firstRow dd with
  | none => exact .inl ⟨rfl, rfl, rfl⟩
  | some i => exact .inr ⟨i, rfl, rfl, rfl⟩
mutual
theorem dp_kp {as : List Addr} (k : Kept as H H') (hn : ∀ b ∈ as, ∃ u, H b = some u ∧ notTup u = true) : ∀ {v : V} {a : PyData}, Dp K H v a → ∀ {n : Nat}, Pl n a → Dp K H' v a
  | _, _, .non, _, _ => .non
  | _, _, .bl b, _, _ => .bl b
  | _, _, .int i, _, _ => .int i
  | _, _, .str x, _, _ => .str x
  | _, _, .lst h t, _, pl => nomatch pl
  | _, _, .tup h t, _, pl => .tup (tup_keep h k hn) (dps_kp k hn t (fun a ha => by
      cases pl with
      | tup m hm => exact ⟨m, hm a ha⟩))
theorem dps_kp {as : List Addr} (k : Kept as H H') (hn : ∀ b ∈ as, ∃ u, H b = some u ∧ notTup u = true) : ∀ {vs : List V} {ds : List PyData}, DpAll K H vs ds → (∀ a ∈ ds, ∃ n, Pl n a) → DpAll K H' vs ds
  | _, _, .nil, _ => .nil
  | _, _, .cons h t, a => .cons ((a _ List.mem_cons_self).elim fun n pl => dp_kp k hn h pl) (dps_kp k hn t (fun x hx => a x (List.mem_cons_of_mem _ hx)))
end
theorem viaC {te : TE} {A : TS} {D : Ends} {W : Hp → Prop} (h : ∀ QQ : VK, (∀ Hz, W Hz → QQ (.bl true) Hz) → te σ H QQ) (q : ∀ Hz, W Hz → D.nx σ Hz) : tIfS (tNot (tB te)) A tNext D σ H := h _ (fun Hz w => ⟨true, rfl, iteF (q Hz w)⟩)
def wide : List PyData := List.replicate 40 (.tuple [.str "rest", .int 1])
theorem wide_first : firstRow (.tuple (wide ++ [.tuple [.str "end"]])) = some 40 := by kernel_rfl
theorem wide_pl : Pl 61 (.tuple (wide ++ [.tuple [.str "end"]])) := .tup 60 (fun x hx => by
  rcases List.mem_append.mp hx with hx | hx
  · rw [(List.mem_replicate.mp hx).2]
    refine .tup 59 (fun y hy => ?_)
    simp only [List.mem_cons, List.not_mem_nil, or_false] at hy
    rcases hy with rfl | rfl
    · exact .str _ (by decide +kernel)
    · exact .int _ _
  · rw [List.mem_singleton.mp hx]
    refine .tup 59 (fun y hy => ?_)
    rw [List.mem_singleton.mp hy]
    exact .str _ (by decide +kernel))
theorem wide_pl0 : Pl 61 (.tuple wide) := .tup 60 (fun x hx => by
  cases wide_pl with
  | tup m h => exact h x (List.mem_append_left _ hx))
end
end SB

set_option Elab.async false
set_option linter.all false
set_option maxRecDepth 100000
set_option maxHeartbeats 4000000
namespace SB
open PySem L2
section
variable {P : Program} {w : World} {K : PySem.W.Frag} {mg : Str → Option Value} {base : Heap}
def Straight (prog : List Row) : Prop := ∀ r ∈ prog, (∀ x, r ≠ .go x) ∧ ∀ x y, r ≠ .iff x y
def sp_l_program (K : PySem.W.Frag) : Sp := fun vs H Q _ => ∃ (d sl : Addr) (f p : Int) (cs : List Int) (st : Bool), vs = [.ref d, .bl st] ∧ DiceAt H d sl f p cs ∧ cs.length ≤ 63 ∧
  ∀ (H' : Hp) (f' p' : Int) (cs' : List Int) (pa : Addr) (rs : List Addr) (prog : List Row), DiceAt H' d sl f' p' cs' → cs'.length = cs.length → Kept [d, sl] H H' → H pa = none → ProgAt K H' pa rs prog → 0 < prog.length → prog.length ≤ 40 → (∀ r ∈ prog, r.ok prog.length) → (st = true → Straight prog) → Q (.ref pa) H'
theorem ok_l_program (T : T w K mg) : FnR P w K mg base CX0 3 (He.ga K "_law_program") (sp_l_program K) := by
  have F_l_off : FnR P w K mg base CX0 1 _ _ := ok_l_off T
  have F_l_row : FnR P w K mg base CX0 2 _ _ := ok_l_row T
  obtain ⟨fd, F⟩ := T.f_l_program
  refine F.r sc_l_program (fun _ _ _ _ _ _ us hl => match us, hl with | [_, _], _ => rfl) (fun vs H Q E h => ?_) (fun cdv A outer s H vs Q E hr h => ?_)
  · obtain ⟨_, _, _, _, _, _, rfl, _⟩ := h
    rfl
  · obtain ⟨d, sl, f, p, cs, st, rfl, D, c63, q⟩ := h
    refine ⟨_, (pss_cons (ps_set (i := 2) sc_l_program.nd rfl (Or.inr rfl) (pe_op op_add pe_int (pe_callR F_l_off (hr.mono (by decide)) rfl T.g_l_off T.k_l_off (pa_cons (pv 0) (pa_cons (pe_ix ix_list (pe_lst (pa_cons pe_int (pa_cons pe_int (pa_cons pe_int pa_nil)))) (pe_callR F_l_off (hr.mono (by decide)) rfl T.g_l_off T.k_l_off (pa_cons (pv 0) (pa_cons pe_int pa_nil))) (fun _ _ => rfl)) pa_nil)))))
      (pss_one (ps_ret (pe_callTy call_tuple_of rfl T.u_tuple (by decide +kernel) (pa_cons (pe_lc (own := [("_law_k", 3)]) (g := gName 3) (tt := tYes) (te := tCallR (sp_l_row K) (tCons (tVar 0) (tCons (tVar 2) (tCons (tVar 1) tNil)))) rfl sc_l_program.nd (pi_range1 rfl T.u_range (pa_cons (pv 2) pa_nil))
        (blkOk_by (N := ["_law_d", "_law_straight", "_law_many", "_law_k"]) (sc := defScope s_l_program) (by decide +kernel)) (fun _ _ _ _ _ => pg_name (i := 3) sc_l_program.nd rfl (Or.inl rfl)) (fun _ _ _ _ _ => pts_nil)
        (fun _ _ _ _ _ => pe_callR F_l_row (hr.mono (by decide)) rfl T.g_l_row T.k_l_row (pa_cons (pv 0) (pa_cons (pv 2) (pa_cons (pv 1) pa_nil))))) pa_nil))))), ?_⟩
    have S0 : StD H d sl cs.length H := ⟨f, p, cs, D, rfl, Kept.refl _ _⟩
    refine ⟨_, rfl, by show 3 ≤ sizeLine; decide, fun b hb => ?_⟩
    generalize hG1 : upd H b _ = G1
    have S1 : StD H d sl cs.length G1 := by rw [← hG1]; exact S0.new hb
    have e1 : G1 b = some (.lst [.int 8, .int 20, .int 40]) := by rw [← hG1]; exact upd_same
    have nb : b ∉ [d, sl] := S0.nin hb
    clear hG1
    refine S1.off c63 rfl (fun _ h => h) (by decide) (by decide) (fun G2 v S2 k2 v0 v1 => ?_)
    have e2 := k2 _ _ e1 nb
    obtain ⟨m, hm, m0, m40⟩ : ∃ m : Int, atI ([.int 8, .int 20, .int 40] : List V) v = some (.int m) ∧ 0 < m ∧ m ≤ 40 := by
      have : v = 0 ∨ v = 1 ∨ v = 2 := by omega
      rcases this with rfl | rfl | rfl
      · exact ⟨8, rfl, by decide, by decide⟩
      · exact ⟨20, rfl, by decide, by decide⟩
      · exact ⟨40, rfl, by decide, by decide⟩
    refine ⟨_, _, _, _, rfl, rfl, SqL.of e2, hm, ?_⟩
    obtain ⟨f2, p2, cs2, D2, c2, kk2⟩ := S2
    refine ⟨d, sl, f2, p2, cs2, m, rfl, D2, by omega, m0, by omega, fun G3 f3 p3 cs3 u D3 c3 k3 u0 u1 => ?_⟩
    refine ⟨_, _, rfl, rfl, ?_⟩
    have kk3 := kk2.trans k3
    refine ⟨_, rfl, 1 + u, rfl, by omega, by omega, fun R hR => ?_⟩
    have nR : R ∉ [d, sl] := D3.ned hR
    have hR0 : H R = none := kk3.free hR nR
    have sR : Same G3 (upd G3 R (.lst [])) := Same.new (Same.refl _) hR
    have Rd : R ≠ d := fun z => nR (by simp [z])
    have Rs : R ≠ sl := fun z => nR (by simp [z])
    refine lc_it walk_range (fun i H4 => ∃ (f4 p4 : Int) (cs4 : List Int) (rs : List Addr) (prog : List Row), DiceAt H4 d sl f4 p4 cs4 ∧ cs4.length = cs.length ∧ Kept [d, sl] H H4 ∧ TupsAt H4 R rs (prog.map Row.vs) ∧ prog.length = i ∧ (∀ r ∈ prog, r.ok (1 + u).toNat) ∧ (st = true → Straight prog))
      ⟨f3, p3, cs3, [], [], D3.same sR, by omega, kk3.new hR0, ⟨upd_same, rfl, fun j p vs e => by simp at e⟩, rfl, by simp, fun _ => by intro r hr; simp at hr⟩ (fun i H4 _ _ => trivial) ?_ ?_
    · rintro i x H4 H5 hi ⟨f4, p4, cs4, rs, prog, D4, c4, k4, tp, hl, ok, hs⟩ ⟨rfl, rfl⟩
      refine ⟨rfl, yes ?_⟩
      refine ⟨_, rfl, _, rfl, _, rfl, d, sl, f4, p4, cs4, 1 + u, st, rfl, D4, by omega, by omega, by omega, fun H6 f6 p6 cs6 t r D6 c6 k6 nt ht rok rst => ?_⟩
      have hR6 := k6 _ _ tp.lst nR
      have tk6 : Tk _ H6 := StD.tk (H := H) (n := cs.length) ⟨f4, p4, cs4, D4, c4, k4⟩ k6
      refine ⟨_, hR6, by rw [List.length_map, tp.len, List.length_map, hl]; exact Nat.lt_of_lt_of_le hi (Nat.le_trans (show (1 + u).toNat ≤ 40 by omega) (by decide)), f6, p6, cs6, rs ++ [t], prog ++ [r], ?_, by omega, (k4.trans k6).new hR0, ?_, by simp [hl], fun r' hr' => ?_, fun h r' hr' => ?_⟩
      · exact ⟨by rw [upd_ne (Ne.symm Rd)]; exact D6.ob, by rw [upd_ne (Ne.symm Rs)]; exact D6.ls, D6.f0, D6.f1, D6.p0, D6.ne⟩
      · rw [List.map_append]
        refine tups_snoc tp (by rw [upd_same, List.map_append]; rfl) ?_ (fun q us e => ?_)
        · rw [upd_ne (ne_of ht hR6 (by intro z; cases z))]
          exact ht
        · have e6 := tk6 _ _ e
          rw [upd_ne (ne_of e6 hR6 (by intro z; cases z))]
          exact e6
      · rcases List.mem_append.mp hr' with z | z
        · exact ok r' z
        · have e : r' = r := by simpa using z
          rw [e]
          exact rok
      · rcases List.mem_append.mp hr' with z | z
        · exact hs h r' z
        · have e : r' = r := by simpa using z
          rw [e]
          exact rst h
    · rintro H4 ⟨f4, p4, cs4, rs, prog, D4, c4, k4, tp, hl, ok, hs⟩
      refine ⟨_, _, rfl, .inl ⟨SqL.of tp.lst, fun pa hpa => ?_⟩⟩
      have s5 : Same H4 (upd H4 pa (.tup (rs.map V.ref))) := Same.new (Same.refl _) hpa
      have npa : H pa = none := k4.free hpa (D4.ned hpa)
      refine q _ f4 p4 cs4 pa rs prog (D4.same s5) c4 (k4.trans (Kept.same s5)) npa ⟨SqT.of upd_same, by rw [tp.len, List.length_map], fun j t r e1 e2 => SqT.of (s5 _ _ (tp.at_ j t _ e1 (by rw [List.getElem?_map, e2]; rfl)))⟩ (by omega) (by omega) ?_ hs
      intro r hr
      have := ok r hr
      rw [← hl] at this
      exact this
end
end SB

set_option Elab.async false
set_option linter.all false
set_option maxRecDepth 100000
set_option maxHeartbeats 1000000
namespace SB
open PySem PySem.Spec PyProof.Rows L2 LamX StX CloX
abbrev N01 : List Str := ["_law_script", "_law_d", "_law_turn", "_law_program_here", "_law_change", "_law_at", "_law_way", "_law_some", "_law_first", "_law_works", "_law_due", "_law_wide"]
def spLaw01 (K : PySem.W.Frag) : Sp := fun vs H Q _ => ∃ (a : Addr) (ns : List Int), vs = [.ref a] ∧ SqL K H a (ns.map V.int) ∧ ns.length ≤ 63 ∧ Tabs (tz K) H ∧ ∀ H', Q (.bl true) H'
section
variable {P : Program} {w : World} {K : PySem.W.Frag} {mg : Str → Option Value} {base : Heap} {H H' : Hp}
theorem okC1 {x qual : Str} {params : Arguments} {body : List Stmt} {scope : Scope} {f : Addr} {fd : FuncData} {N ps : List Str} {k : Nat} {sp : Sp} {p : He.Defn} (F : FunD K x qual params body scope [] [] f fd) (hf : f = He.fAd K p) (S : FnScope N ps scope)
    (len : ∀ vs H Q E, sp vs H Q E → vs.length = ps.length)
    (hbody : ∀ (A : Around) (outer : List Env) (s : Shared) (H : Hp) (vs : List V) (Q : VK) (E : XK), Room k (A.deeper (envOfC qual scope s.heap.objs.size f (.ref (He.codeOf K p)))) → sp vs H Q E →
      ∃ t, PSs (cxOf CX0 P w K mg base N qual scope f (.ref (He.codeOf K p)) A outer s H E).nox body t ∧ t { nx := fun _ H' => Q .non H', rt := Q } (start N vs) H) : FnOk P w K mg base CX0 (k + 1) f fd ps sp := by
  obtain ⟨oc, od, dV, kV, doc, pm, an, cdv, ct, osl, e, lk, hcd, _, _⟩ := F.ex
  subst e
  obtain ⟨c, rfl⟩ := He.codeIn_ref hcd
  have ec : He.codeOf K p = c := He.codeOf_eq (by rw [← hf]; exact lk) rfl
  refine fn_of lk hcd S len fun A outer s H vs Q E hr hsp => ?_
  rw [← ec] at hr ⊢
  obtain ⟨t, h1, h2⟩ := hbody A outer s H vs Q E hr hsp
  exact ⟨t, h1.nox, h2⟩
theorem ok_law (T : T w K mg) (PT : ProgT P K mg) (TBD : TabB base mg (cD K) (tD K)) (TBW : TabB base mg (cW K) (tW K)) (TL : TabB base mg (cL K) (tL K)) {fd : FuncData} (F : FunD K "law" "law" (defArgs s_law) (defBody s_law) (defScope s_law) [] [] (He.ga K "law") fd) : FnOk P w K mg base CX0 13 (He.ga K "law") fd ["_law_script"] (spLaw01 K) := by
  have F_l_dice : FnR P w K mg base CX0 1 _ _ := ok_l_dice T
  have F_l_off : FnR P w K mg base CX0 1 _ _ := ok_l_off T
  have F_l_program : FnR P w K mg base CX0 3 _ _ := ok_l_program T
  have F_l_bent_row : FnR P w K mg base CX0 3 _ _ := ok_l_bent_row T
  have F_l_first_row : FnR P w K mg base CX0 3 _ _ := ok_l_first_row T
  have F_l_doors : FnR P w K mg base CX0 2 _ _ := ok_l_doors T PT TBD
  have F_l_windows : FnR P w K mg base CX0 2 _ _ := ok_l_windows T PT TBW
  have F_l_are : FnR P w K mg base CX0 12 _ _ := ok_l_are T PT 9
  have F_Hall : FnR P w K mg base CX0 7 _ _ := ok_Hall_init T
  have F_times : FnR P w K mg base (L2.CX P w) 6 _ _ := ok_door_times T PT
  have F_overs : FnR P w K mg base (L2.CX P w) 6 _ _ := ok_door_overs T PT
  have F_spread : FnR P w K mg base (L2.CX P w) 5 _ _ := ok_door_spread T PT
  obtain ⟨fdw, Fw⟩ := T.f_l_word
  have bW : Binds K fdw ["_law_work"] [] := Fw.bindsN fun _ _ _ _ _ _ us hl => match us, hl with | [_], _ => rfl
  obtain ⟨oc, od, dV, kV, doc, pm, an, cdvw, ctw, osl, rfl, lkw, hcw, _, _⟩ := Fw.ex
  refine okC1 (p := ("law", none)) F rfl sc_law (fun vs H Q E h => ?_) (fun A outer s H vs Q E hr h => ?_)
  · obtain ⟨_, _, rfl, _⟩ := h
    rfl
  · obtain ⟨a, ns, rfl, hS, h63, tb, q⟩ := h
    have hu := hr.units
    refine ⟨_, (pss_cons (ps_set (i := 1) sc_law.nd rfl (Or.inl rfl) (pe_callR F_l_dice (hr.mono (by decide)) rfl T.g_l_dice T.k_l_dice (pa_cons (pv 0) (pa_cons pe_int pa_nil))))
  (pss_cons (ps_for PassesOwn.never rfl (pi_range1 rfl T.u_range (pa_cons pe_int pa_nil)) (pg_name (i := 2) sc_law.nd rfl (Or.inl rfl))
  (pss_cons (ps_set (i := 3) sc_law.nd rfl (Or.inr rfl) (pe_callR F_l_program (hr.mono (by decide)) rfl T.g_l_program T.k_l_program (pa_cons (pv 1) (pa_cons pe_bl pa_nil))))
  (pss_cons (ps_for PassesOwn.never rfl (pi_range1 rfl T.u_range (pa_cons (pe_callR F_l_off (hr.mono (by decide)) rfl T.g_l_off T.k_l_off (pa_cons (pv 1) (pa_cons pe_int pa_nil))) pa_nil)) (pg_name (i := 4) sc_law.nd rfl (Or.inl rfl))
  (pss_cons (ps_set (i := 5) sc_law.nd rfl (Or.inl rfl) (pe_callR F_l_off (hr.mono (by decide)) rfl T.g_l_off T.k_l_off (pa_cons (pv 1) (pa_cons (pe_callB call_len_seq rfl T.u_len PySem.boot_len (pa_cons (pv 3) pa_nil)) pa_nil))))
  (pss_cons (ps_set (i := 6) sc_law.nd rfl (Or.inl rfl) (pe_callR F_l_off (hr.mono (by decide)) rfl T.g_l_off T.k_l_off (pa_cons (pv 1) (pa_cons pe_int pa_nil))))
  (pss_cons (ps_set (i := 7) sc_law.nd rfl (Or.inl rfl) (pe_ix ix_list (pe_lst (pa_cons (pe_tup pa_nil) (pa_cons pe_int (pa_cons pe_non (pa_cons (pe_tup (pa_cons pe_str pa_nil)) pa_nil))))) (pe_op op_mod (pv 6) pe_int) (fun _ _ => rfl)))
  (pss_cons (ps_if (PW.pt (pw_and (pt_cmpR op_gt (pv 6) pe_int (nomark _)) (pw_and (pt_val (pe_isi (n := "tuple") rfl T.u_isinstance rfl T.u_tuple (pe_ix ix_tup (pv 3) (pv 5) (fun _ _ => rfl)))) (pw_and1 (pt_cmpR (op_neD hu) (pe_ix ix_tup (pv 3) (pv 5) (fun _ _ => rfl)) (pe_tup pa_nil) (nomark _))))))
  (pss_one (ps_set (i := 7) sc_law.nd rfl (Or.inl rfl) (pe_callR F_l_bent_row (hr.mono (by decide)) rfl T.g_l_bent_row T.k_l_bent_row (pa_cons (pv 1) (pa_cons (pe_ix ix_tup (pv 3) (pv 5) (fun _ _ => rfl)) pa_nil)))))
  pss_nil)
  (pss_one (ps_set (i := 3) sc_law.nd rfl (Or.inr rfl) (pe_op op_catA (pe_op op_catA (pe_slice sl_tupA (pv 3) po_none (po_some (pv 5))) (pe_tup (pa_cons (pv 7) pa_nil))) (pe_slice sl_tupA (pv 3) (po_some (pe_op op_add (pv 5) pe_int)) po_none)))))))))
  (pss_cons (ps_set (i := 3) sc_law.nd rfl (Or.inr rfl) (pe_ix ix_list (pe_lst (pa_cons (pv 3) (pa_cons (pe_tup pa_nil) (pa_cons pe_int (pa_cons (pe_op op_repA (pv 3) pe_int) pa_nil))))) (pe_op op_mul (pe_callR F_l_off (hr.mono (by decide)) rfl T.g_l_off T.k_l_off (pa_cons (pv 1) (pa_cons pe_int pa_nil))) (pe_callTy call_int1 rfl T.u_int (by decide +kernel) (pa_cons (pe_cmpR op_eq (pe_callR F_l_off (hr.mono (by decide)) rfl T.g_l_off T.k_l_off (pa_cons (pv 1) (pa_cons pe_int pa_nil))) pe_int (nomark _)) pa_nil))) (fun _ _ => rfl)))
  (pss_cons (ps_set (i := 8) sc_law.nd rfl (Or.inl rfl) (pe_callR F_l_first_row (hr.mono (by decide)) rfl T.g_l_first_row T.k_l_first_row (pa_cons (pv 3) pa_nil)))
  (pss_cons (ps_set (i := 9) sc_law.nd rfl (Or.inl rfl) (pe_op op_cat (pe_callR F_l_doors (hr.mono (by decide)) rfl T.g_l_doors T.k_l_doors (pa_cons (pv 3) (pa_cons (pe_lst (pa_cons (pe_tup pa_nil) pa_nil)) (pa_cons (pe_lst pa_nil) (pa_cons (pe_lst (pa_cons (pe_tup pa_nil) pa_nil)) pa_nil))))) (pe_callR F_l_windows (hr.mono (by decide)) rfl T.g_l_windows T.k_l_windows (pa_cons (pv 3) (pa_cons (pe_lst (pa_cons (pe_tup pa_nil) pa_nil)) (pa_cons (pe_lst pa_nil) pa_nil))))))
  (pss_cons (ps_set (i := 9) sc_law.nd rfl (Or.inl rfl) (pe_op op_cat (pv 9) (pe_lst (pa_cons (pe_clo0 (T := tz K) (P := tL K) (c := cL K) TL rfl (by exact (List.mem_cons_of_mem _ (List.mem_cons_of_mem _ List.mem_cons_self))) (by exact hu_L T) (free_by (by show freeB _ (defScope s_law) = true; decide +kernel)) rfl (fun _ _ _ _ _ _ => rfl)) (pa_cons (pe_clo1 (x := "_law_a") (T := tz K) (P := tL K) (c := cL K) TL rfl (by exact (List.mem_cons_of_mem _ (List.mem_cons_of_mem _ List.mem_cons_self))) (by exact hu_L T) (free_by (by show freeB _ (defScope s_law) = true; decide +kernel)) rfl rfl (by decide +kernel) (fun _ _ _ _ _ _ _ => ⟨_, rfl, fun _ => rfl⟩)) pa_nil)))))
  (pss_cons (ps_expr (pe_bm PySem.F.plainAttrs_list PySem.F.slot_list_append PySem.F.type_list_append mt_append (pv 9) (pa_cons (pe_clo1 (x := "_law_b") (T := tz K) (P := tL K) (c := cL K) TL rfl (by exact (List.mem_cons_of_mem _ (List.mem_cons_of_mem _ List.mem_cons_self))) (by exact hu_L T) (free_by (by show freeB _ (defScope s_law) = true; decide +kernel)) rfl rfl (by decide +kernel) (fun _ _ _ _ _ _ _ => ⟨_, rfl, fun _ => rfl⟩)) pa_nil)))
  (pss_cons (ps_set (i := 10) sc_law.nd rfl (Or.inl rfl) (pe_ifExp (pt_cmp (pc_isN (pv 8))) (pe_tup (pa_cons pe_str (pa_cons pe_int pa_nil))) (pe_tup (pa_cons pe_str (pa_cons (pv 8) pa_nil)))))
  (pss_one (ps_if (pt_not (pt_val (pe_callS ["_law_program_here"] F_l_are (hr.mono (by decide)) rfl T.g_l_are T.k_l_are sc_law.nd (fun y hy => by rw [List.mem_singleton.mp hy]; exact .inl (by kernel_rfl)) (fun _ _ => rfl) (pa_cons (pv 9) (pa_cons (pv 10) pa_nil)))))
  (pss_one (ps_ret pe_bl))
  pss_nil)))))))))))
  (pss_cons (ps_set (i := 11) sc_law.nd rfl (Or.inr rfl) (pe_op op_repA (pe_tup (pa_cons (pe_tup (pa_cons pe_str (pa_cons pe_int pa_nil))) pa_nil)) pe_int))
  (pss_one (ps_ret (pe_and (pe_cmp (pc_isN (pe_lamcall (T := tz K) (P := tL K) (c := cL K) (TT := TTW K) (k := 9) (Ng := NWd) (t := fun E => tMakeR (He.ga K "Hall") (sp_Hall_init K) C8.E0 (tCons (tVar 11) (tCons (tLst tNil) (tCons (tOp rRep (tLst (tCons (tC (.int 0)) tNil)) (tC (.int 4))) (tCons (tLst tNil) tNil))))) rfl T.g_l_word T.k_l_word lkw hcw bW sc_l_word rfl (Or.inl rfl) (word_gives T) TL rfl (by exact (List.mem_cons_of_mem _ (List.mem_cons_of_mem _ List.mem_cons_self))) (by exact hu_L T) (hr.mono (by decide)) (lamS_by (by show lamSB (defScope s_law) _ = true; decide +kernel)) rfl (fun _ _ _ _ _ => rfl) (fun A' outer' s' H' E f' c' hr' => pe_mkR T.mk_Hall F_Hall (hr'.mono (by decide)) rfl T.g_Hall (pa_cons (pv 11) (pa_cons (pe_lst pa_nil) (pa_cons (pe_op op_rep (pe_lst (pa_cons pe_int pa_nil)) pe_int) (pa_cons (pe_lst pa_nil) pa_nil)))))))) (pe_one (pe_cmpR op_eq (pe_callR F_l_first_row (hr.mono (by decide)) rfl T.g_l_first_row T.k_l_first_row (pa_cons (pe_op op_catA (pv 11) (pe_tup (pa_cons (pe_tup (pa_cons pe_str pa_nil)) pa_nil))) pa_nil)) pe_int (nomark _))))))))), ?_⟩
    refine ⟨_, rfl, a, ns, 0, rfl, hS, by decide, by decide, h63, fun G0 d sl f1 D1 nd nsl s0' => ?_⟩
    refine ⟨5, rfl, by decide, by decide, ?_⟩
    refine for_it walk_range (fun i σ H5 => ∃ v2 v3 v4 v5 v6 v7 v8 v9 v10 v11, σ = [some (.ref a), some (.ref d), v2, v3, v4, v5, v6, v7, v8, v9, v10, v11] ∧ WD K d sl H5)
      ⟨_, _, _, _, _, _, _, _, _, _, rfl, f1, 0, ns, D1, h63, Tabs.ext tb s0'⟩ (fun _ _ _ _ _ => trivial) ?_ ?_
    · rintro i0 x σ G0 G0' hi ⟨v2, v3, v4, v5, v6, v7, v8, v9, v10, v11, rfl, W0⟩ ⟨rfl, rfl⟩
      obtain ⟨f0, p0, cs0, D0, c0, tb0⟩ := W0
      refine ⟨_, rfl, d, sl, f0, p0, cs0, false, rfl, D0, c0, fun G1 f1 p1 cs1 pa rs prog D1 c1 k1 npa Pr1 pr0 pr40 prok _ => ?_⟩ -- _law_program(..)
      have W1 := WD.kept tb0 D0 D1 (by omega) k1
      have P1 := pd_prog Pr1 pr0 pr40
      clear D0 tb0 k1 Pr1 prok
      refine wd_off W1 rfl (fun _ h => h) (by decide) (by decide) (fun G2 many W2 k2 dk2 m0 m3 => ?_)
      have P2 := P1.dk dk2
      refine ⟨many, rfl, by omega, by omega, ?_⟩
      refine for_it walk_range (fun i σ H5 => ∃ pv ds v4 v5 v6 v7, σ = [some (.ref a), some (.ref d), some (.int (0 + (i0 : Int))), some pv, v4, v5, v6, v7, v8, v9, v10, v11] ∧ WD K d sl H5 ∧ PD K H5 pv ds (5 + 4 * i))
        ⟨_, _, _, _, _, _, rfl, W2, P2⟩ (fun _ _ _ _ _ => trivial) ?_ ?_
      · rintro i1 x σ G3 G3' hi1 ⟨pv, ds, v4, v5, v6, v7, rfl, W3, P3⟩ ⟨rfl, rfl⟩
        have i3 : i1 < 3 := by
          have : i1 < many.toNat := hi1
          omega
        obtain ⟨pa3, xs3, rfl, hx3, Dx3⟩ := P3.at
        have l3 := P3.l1
        have l03 := P3.l0
        refine wd_off W3 rfl (fun _ h => ⟨_, rfl, _, _, rfl, .inr hx3, by rw [dpA_len Dx3]; exact h⟩) (by omega) (by omega) (fun G4 at_ W4 k4 dk4 a0 a1 => ?_)
        have P4 := P3.dk dk4
        refine wd_off W4 rfl (fun _ h => h) (by decide) (by decide) (fun G5 way W5 k5 dk5 w0 w1 => ?_)
        have P5 := P4.dk dk5
        clear P3 P4 W3 W4 hx3 Dx3 k4 k5 dk4 dk5
        obtain ⟨n, rfl⟩ : ∃ n : Nat, at_ = (n : Int) := ⟨at_.toNat, by omega⟩
        have hn : n < ds.length := by omega
        refine ⟨by show 0 ≤ sizeLine; decide, fun e0 ne0 => ?_⟩
        refine ⟨by show 1 ≤ sizeLine; decide, fun e1 ne1 => ?_⟩
        refine ⟨by show 4 ≤ sizeLine; decide, fun e2 ne2 => ?_⟩
        generalize hG : upd (upd (upd G5 e0 _) e1 _) e2 _ = G6
        have s6 : Same G5 G6 := by rw [← hG]; exact ((Same.new (Same.refl _) ne0).trans (Same.new (Same.refl _) ne1)).trans (Same.new (Same.refl _) ne2)
        have he2 : G6 e2 = some (.lst [.ref e0, .int 5, .non, .ref e1]) := by rw [← hG]; exact upd_same
        have he1 : G6 e1 = some (.tup [.str "rest"]) := by rw [← hG, upd_ne (ne_of_none upd_same ne2)]; exact upd_same
        have he0 : G6 e0 = some (.tup []) := by
          have z : upd G5 e0 (.tup []) e0 = some (.tup []) := upd_same
          have z1 := Same.new (o := .tup [.str "rest"]) (Same.refl _) ne1 e0 _ z
          rw [← hG]
          exact Same.new (Same.refl _) ne2 e0 _ z1
        clear hG
        have P6 := P5.same s6
        have W6 := W5.same s6
        obtain ⟨su, sd, hs, Ds, rs0⟩ : ∃ su sd, atI ([.ref e0, .int 5, .non, .ref e1] : List V) (way % 4) = some su ∧ Dp K G6 su sd ∧ RwD 5 sd := by
          have : way % 4 = 0 ∨ way % 4 = 1 ∨ way % 4 = 2 ∨ way % 4 = 3 := by omega
          rcases this with h | h | h | h <;> rw [h]
          · exact ⟨.ref e0, .tuple [], rfl, .tup (SqT.of he0) .nil, by show 0 ≤ 5; decide, fun x hx => by cases hx⟩
          · exact ⟨.int 5, .int 5, rfl, .int _, trivial⟩
          · exact ⟨.non, .none, rfl, .non, trivial⟩
          · refine ⟨.ref e1, .tuple [.str "rest"], rfl, .tup (SqT.of he1) (.cons (.str _) .nil), by show 1 ≤ 5; decide, fun x hx => ?_⟩
            rw [List.mem_singleton.mp hx]
            exact ⟨by decide +kernel, by decide⟩
        refine ⟨_, rfl, _, _, rfl, rfl, (by decide : (0 : Int) < 4), ?_⟩
        refine ⟨_, _, _, su, rfl, rfl, SqL.of he2, hs, ?_⟩
        have fin : ∀ {Gn : Hp} {sv : V} {sd : PyData} {QQ : VK} (u : L2.St), u = [some (.ref a), some (.ref d), some (.int (0 + (i0 : Int))), some (.ref pa3), some (.int (0 + (i1 : Int))), some (.int (n : Int)), some (.int way), some sv, v8, v9, v10, v11] → WD K d sl Gn → PD K Gn (.ref pa3) ds (5 + 4 * i1) → Dp K Gn sv sd → RwD (5 + 4 * i1 + 4) sd → (∀ H' p ds', WD K d sl H' → PD K H' (.ref p) ds' (5 + 4 * (i1 + 1)) → QQ (.ref p) H') → tOp (rCatA K) (tOp (rCatA K) (tSl (rSlA K) (tVar 3) tNoPart (tPart (tVar 5))) (tTup (tCons (tVar 7) tNil))) (tSl (rSlA K) (tVar 3) (tPart (tOp (rI0 fun i j => .int (i + j)) (tVar 5) (tC (.int 1)))) tNoPart) u Gn QQ := fun {Gn sv sd QQ} u eu Wn Pn Dn rn q => by
          subst eu
          exact upd_prog (m := 5 + 4 * (i1 + 1)) rfl rfl rfl (Pn.mono (by omega)) Dn (rn.mono (by omega)) hn (fun H' p s' P' => q H' p _ (Wn.same s') P')
        obtain ⟨pa6, xs6, e6, hx6, Dx6⟩ := P6.at
        cases e6
        obtain ⟨x0, hx0⟩ : ∃ e, ds[n]? = some e := ⟨_, List.getElem?_eq_getElem hn⟩
        obtain ⟨y0, hy0⟩ : ∃ y, xs6[n]? = some y := ⟨_, List.getElem?_eq_getElem (by rw [dpA_len Dx6]; exact hn)⟩
        have De := (dpAll_at Dx6).2 n y0 x0 hy0 hx0
        have re := P6.rw x0 (List.mem_of_getElem? hx0)
        have hat : atI xs6 (n : Int) = some y0 := by rw [at_eqJ (by rw [dpA_len Dx6]; exact hn)]; exact hy0
        have done0 := fun (QQ : VK) (q : ∀ H' p ds', WD K d sl H' → PD K H' (.ref p) ds' (5 + 4 * (i1 + 1)) → QQ (.ref p) H') => fin (QQ := QQ) _ rfl W6 P6 Ds (rs0.mono (by omega)) q
        refine ⟨_, rfl, _, _, rfl, rfl, _, rfl, ?_⟩
        refine ite2 (fun cw => ?_) (fun cw => ?_)
        · cases De with
          | lst h t => exact re.elim
          | str z => exact re.elim
          | bl b => exact re.elim
          | non =>
            refine ⟨_, rfl, _, rfl, _, _, _, _, rfl, rfl, hx6, hat, rfl, _, .non, _, rfl, iteF ?_⟩
            exact done0 _ (fun H' p ds' W' P' => ⟨.ref p, ds', _, _, _, _, rfl, W', P'⟩)
          | int z =>
            refine ⟨_, rfl, _, rfl, _, _, _, _, rfl, rfl, hx6, hat, rfl, _, .int _, _, rfl, iteF ?_⟩
            exact done0 _ (fun H' p ds' W' P' => ⟨.ref p, ds', _, _, _, _, rfl, W', P'⟩)
          | tup ht td =>
            rename_i ra vs6 es
            refine ⟨_, rfl, _, rfl, _, _, _, _, rfl, rfl, hx6, hat, rfl, _, .tup ht, _, rfl, iteT ?_⟩
            refine ⟨_, rfl, _, rfl, _, _, _, _, rfl, rfl, hx6, hat, by show 0 ≤ sizeLine; decide, fun e3 ne3 => ?_⟩
            generalize hG : upd G6 e3 _ = G7
            have s7 : Same G6 G7 := by rw [← hG]; exact Same.new (Same.refl _) ne3
            have he3 : G7 e3 = some (.tup []) := by rw [← hG]; exact upd_same
            clear hG
            have P7 := P6.same s7
            have W7 := W6.same s7
            have D7 : Dp K G7 (.ref ra) (.tuple es) := dpS s7 (.tup ht td)
            refine ⟨.tuple es, .tuple [], D7, .tup (SqT.of he3) .nil, (re.pl 58).shaped (by decide), rfl, _, rfl, ?_⟩
            by_cases ne : es = []
            · subst ne
              refine iteF ?_
              exact fin _ rfl W7 P7 (dpS s7 Ds) (rs0.mono (by omega)) (fun H' p ds' W' P' => ⟨.ref p, ds', _, _, _, _, rfl, W', P'⟩)
            · have ee : PyData.eqv (.tuple es) (.tuple []) = false := by
                cases es with
                | nil => exact absurd rfl ne
                | cons _ _ => rfl
              rw [ee]
              refine iteT ?_
              obtain ⟨f7, p7, cs7, DD7, c7, t7⟩ := W7
              refine ⟨_, rfl, _, rfl, _, rfl, _, _, _, _, rfl, rfl, Same.tup s7 hx6, hat, ?_⟩
              refine ⟨d, sl, f7, p7, cs7, _, es, 5 + 4 * i1, rfl, DD7, c7, D7, re, ne, by omega, fun G8 v' a' S8 D8 r8 => ?_⟩
              obtain ⟨f8, p8, cs8, DD8, c8, k8⟩ := S8
              have W8 := WD.kept t7 DD7 DD8 (by omega) k8
              have dk8 : DK K G7 G8 := fun n v a pl Dv => dp_dice DD7 k8 Dv pl
              exact fin _ rfl W8 (P7.dk dk8) D8 r8 (fun H' p ds' W' P' => ⟨.ref p, ds', _, _, _, _, rfl, W', P'⟩)
        · exact done0 _ (fun H' p ds' W' P' => ⟨.ref p, ds', _, _, _, _, rfl, W', P'⟩)
      · rintro σ G3 ⟨pv, ds, v4, v5, v6, v7, rfl, W3, P3⟩
        have mt : many.toNat ≤ 2 := by omega
        obtain ⟨pa3, xs3, rfl, hx3, Dx3⟩ := P3.at
        have l3 := P3.l1
        have l03 := P3.l0
        have xl := dpA_len Dx3
        refine ⟨_, rfl, by show 0 ≤ sizeLine; decide, fun e0 ne0 => ?_⟩
        generalize hG : upd G3 e0 _ = G4
        have s4 : Same G3 G4 := by rw [← hG]; exact Same.new (Same.refl _) ne0
        have he0 : G4 e0 = some (.tup []) := by rw [← hG]; exact upd_same
        clear hG
        refine ⟨_, rfl, pa3, 41, xs3, rfl, rfl, Same.tup s4 hx3, (fun z => by rw [z] at xl; have : 0 = ds.length := xl; omega), by decide, by decide, by omega, (fun z => by cases z), fun _ e1 ne1 => ?_⟩
        generalize hG : upd G4 e1 _ = G5
        have s5 : Same G4 G5 := by rw [← hG]; exact Same.new (Same.refl _) ne1
        have he1 : G5 e1 = some (.tup (List.replicate 41 xs3).flatten) := by rw [← hG]; exact upd_same
        clear hG
        refine ⟨by show 4 ≤ sizeLine; decide, fun e2 ne2 => ?_⟩
        generalize hG : upd G5 e2 _ = G6
        have s6 : Same G5 G6 := by rw [← hG]; exact Same.new (Same.refl _) ne2
        have he2 : G6 e2 = some (.lst [.ref pa3, .ref e0, .int 7, .ref e1]) := by rw [← hG]; exact upd_same
        clear hG
        have s36 := (s4.trans s5).trans s6
        have P6 := P3.same s36
        have W6 := W3.same s36
        have ne2' : e2 ∉ [d, sl] := (W3.same (s4.trans s5)).nin ne2
        obtain ⟨uz, dz, hz, L6⟩ : ∃ (uz : Int → V) (dz : Int → PyData), (∀ u : Int, 0 ≤ u → u < 4 → atI ([.ref pa3, .ref e0, .int 7, .ref e1] : List V) u = some (uz u)) ∧ ∀ u : Int, 0 ≤ u → u < 4 → Last K G6 (uz u) (dz u) := by
          refine ⟨fun u => if u = 0 then .ref pa3 else if u = 1 then .ref e0 else if u = 2 then .int 7 else .ref e1, fun u => if u = 0 then .tuple ds else if u = 1 then .tuple [] else if u = 2 then .int 7 else .tuple (List.replicate 41 ds).flatten, fun u u0 u1 => ?_, fun u u0 u1 => ?_⟩
          · have : u = 0 ∨ u = 1 ∨ u = 2 ∨ u = 3 := by omega
            rcases this with rfl | rfl | rfl | rfl <;> rfl
          · have : u = 0 ∨ u = 1 ∨ u = 2 ∨ u = 3 := by omega
            rcases this with rfl | rfl | rfl | rfl
            · exact ⟨P6.dp, P6.pl, by show ds.length ≤ 2000; omega⟩
            · exact ⟨.tup (SqT.of ((s5.trans s6) _ _ he0)) .nil, .tup 60 (fun x hx => by cases hx), by show 0 ≤ 2000; decide⟩
            · exact ⟨.int _, .int _ _, by show 0 ≤ 2000; decide⟩
            · refine ⟨.tup (SqT.of (s6 _ _ he1)) (dpA_rep (dpSs s36 Dx3) 41), .tup 60 (fun x hx => (P3.rw x (rep_mem 41 hx)).pl 58), ?_⟩
              show (List.replicate 41 ds).flatten.length ≤ 2000
              rw [rep_len]
              omega
        clear he0 he1 Dx3 hx3 P3 P6 W3 s4 s5 s6 s36
        refine wd_off W6 rfl (fun _ h => h) (by decide) (by decide) (fun G7 u1 W7 k7 dk7 u10 u11 => ?_)
        refine wd_off W7 rfl (fun _ h => h) (by decide) (by decide) (fun G8 u2 W8 k8 dk8 u20 u21 => ?_)
        refine ⟨rfl, .inr ⟨_, rfl, ?_⟩⟩
        have hp : 0 ≤ u1 * (if decide (V.int u2 = V.int 0) = true then 1 else 0) ∧ u1 * (if decide (V.int u2 = V.int 0) = true then 1 else 0) < 4 := by
          split <;> omega
        refine ⟨_, _, rfl, rfl, .inl ⟨by omega, by omega⟩, ?_⟩
        refine ⟨_, _, _, _, rfl, rfl, SqL.of (k8 _ _ (k7 _ _ he2 ne2') ne2'), hz _ hp.1 hp.2, ?_⟩
        have L6' := L6 _ hp.1 hp.2
        generalize u1 * (if decide (V.int u2 = V.int 0) = true then 1 else 0) = u at L6' ⊢
        obtain ⟨DL, PL, TLn⟩ := L6'
        generalize uz u = pz at DL ⊢
        generalize dz u = dd at DL PL TLn
        clear hp L6 hz k7 k8 he2
        have DL := dk8 _ _ _ PL (dk7 _ _ _ PL DL)
        clear dk7 dk8 W6 W7
        refine ⟨_, rfl, pz, dd, rfl, DL, PL, TLn, fun G9 s9 => ?_⟩
        have W9 := W8.same s9
        have DL := dpS s9 DL
        clear s9 W8
        obtain ⟨_, _, _, _, _, tb9⟩ := id W9
        -- the doors
        refine ⟨_, rfl, by show 0 ≤ sizeLine; decide, fun t1 nt1 => ?_⟩
        refine ⟨by show 1 ≤ sizeLine; decide, fun l1 nl1 => ?_⟩
        refine ⟨by show 0 ≤ sizeLine; decide, fun m1 nm1 => ?_⟩
        refine ⟨by show 0 ≤ sizeLine; decide, fun t2 nt2 => ?_⟩
        refine ⟨by show 1 ≤ sizeLine; decide, fun l2 nl2 => ?_⟩
        generalize hG : upd (upd (upd (upd (upd G9 t1 _) l1 _) m1 _) t2 _) l2 _ = G10
        have z1 : Same (upd (upd G9 t1 (.tup [])) l1 (.lst [.ref t1])) G10 := by rw [← hG]; exact ((Same.new (Same.refl _) nm1).trans (Same.new (Same.refl _) nt2)).trans (Same.new (Same.refl _) nl2)
        have s10 : Same G9 G10 := ((Same.new (Same.refl _) nt1).trans (Same.new (Same.refl _) nl1)).trans z1
        have hl1 : G10 l1 = some (.lst [.ref t1]) := z1 _ _ upd_same
        have ht1 : G10 t1 = some (.tup []) := z1 _ _ (by rw [upd_ne (ne_of_none upd_same nl1)]; exact upd_same)
        clear hG z1
        have tb10 := Tabs.ext tb9 s10
        have DD10 : DData K G10 pz dd l1 t1 := ⟨dpS s10 DL, PL, hl1, ht1⟩
        refine ⟨pz, dd, l1, t1, .ref m1, .ref l2, rfl, tb10, fun G11 R1 fs1 hR1 n1 hd1 x11 tb11 => ?_⟩
        have W11 := (W9.same s10).ext x11 tb11
        have DD11 := DD10.ext x11
        have C11 : ∀ f ∈ fs1, DC P w K mg base pz dd G11 f := fun f hf => ⟨l1, t1, hd1 f hf, DD11⟩
        clear hd1 x11 DD10 tb10 hl1 ht1 s10 nt1 nl1 nm1 nt2 nl2
        -- the windows
        refine ⟨_, rfl, by show 0 ≤ sizeLine; decide, fun t3 nt3 => ?_⟩
        refine ⟨by show 1 ≤ sizeLine; decide, fun l3_ nl3 => ?_⟩
        refine ⟨by show 0 ≤ sizeLine; decide, fun m3_ nm3 => ?_⟩
        generalize hG : upd (upd (upd G11 t3 _) l3_ _) m3_ _ = G12
        have z1 : Same (upd (upd G11 t3 (.tup [])) l3_ (.lst [.ref t3])) G12 := by rw [← hG]; exact Same.new (Same.refl _) nm3
        have s12 : Same G11 G12 := ((Same.new (Same.refl _) nt3).trans (Same.new (Same.refl _) nl3)).trans z1
        have hl3 : G12 l3_ = some (.lst [.ref t3]) := z1 _ _ upd_same
        have ht3 : G12 t3 = some (.tup []) := z1 _ _ (by rw [upd_ne (ne_of_none upd_same nl3)]; exact upd_same)
        clear hG z1
        have tb12 := Tabs.ext tb11 s12
        have DD12 : DData K G12 pz dd l3_ t3 := ⟨dpS s12 DD11.dp, PL, hl3, ht3⟩
        refine ⟨pz, dd, l3_, t3, .ref m3_, rfl, tb12, fun G13 R2 fs2 hR2 n2 hd2 x13 tb13 => ?_⟩
        have x1113 := (ExtN.of s12).trans x13
        have W13 := W11.ext x1113 tb13
        have DD13 := DD12.ext x13
        have C13 : ∀ f ∈ fs1 ++ fs2, DC P w K mg base pz dd G13 f := fun f hf => (List.mem_append.mp hf).elim (fun h => (C11 f h).ext x1113) (fun h => ⟨l3_, t3, hd2 f h, DD13⟩)
        have hR13 := x1113 _ _ hR1 nt_lstC
        clear C11 hd2 x13 x1113 s12 hl3 ht3 DD12 DD11 W11 hR1 nt3 nl3 nm3 tb11 tb12
        refine ⟨R1, R2, _, _, rfl, rfl, hR13, hR2, by rw [List.length_map, List.length_map]; exact Nat.le_trans (show fs1.length + fs2.length ≤ 20 by omega) (by decide), fun R3 nR3 => ?_⟩
        rw [← List.map_append]
        generalize hG : upd G13 R3 _ = G14
        have s14 : Same G13 G14 := by rw [← hG]; exact Same.new (Same.refl _) nR3
        have hR3 : G14 R3 = some (.lst ((fs1 ++ fs2).map V.ref)) := by rw [← hG]; exact upd_same
        clear hG
        have W14 := W13.same s14
        have tb14 := Tabs.ext tb13 s14
        have DD14 := DD13.same s14
        have C14 : ∀ f ∈ fs1 ++ fs2, DC P w K mg base pz dd G14 f := fun f hf => (C13 f hf).ext (ExtN.of s14)
        have n12 : (fs1 ++ fs2).length ≤ 20 := by rw [List.length_append]; omega
        generalize fs1 ++ fs2 = fs at hR3 C14 n12
        clear C13 W13 DD13 tb13 hR13 hR2 n1 n2 s14 nR3
        -- its own
        refine ⟨_, rfl, tb14, fun f1 c1 dV1 G15 e15 _ tb15 nf1 fa1 => ?_⟩
        refine ⟨tb15, fun f2 c2 dV2 G16 e16 _ tb16 nf2 fa2 => ?_⟩
        refine ⟨by show 2 ≤ sizeLine; decide, fun l4 nl4 => ?_⟩
        generalize hG : upd G16 l4 _ = G17
        have s17 : Same G16 G17 := by rw [← hG]; exact Same.new (Same.refl _) nl4
        have hl4 : G17 l4 = some (.lst [.ref f1, .ref f2]) := by rw [← hG]; exact upd_same
        clear hG
        have x17 := (e15.trans e16).trans (ExtN.of s17)
        have tb17 := Tabs.ext tb16 s17
        have W17 := W14.ext x17 tb17
        have DD17 := DD14.ext x17
        have C17 : ∀ f ∈ fs, DC P w K mg base pz dd G17 f := fun f hf => (C14 f hf).ext x17
        have fa1 := fnAt_ext fa1 (e16.trans (ExtN.of s17))
        have fa2 := fnAt_ext fa2 (ExtN.of s17)
        have hR17 := x17 _ _ hR3 nt_lstC
        clear x17 e15 e16 s17 C14 DD14 W14 tb14 tb15 tb16 hR3 nl4
        refine ⟨R3, l4, _, _, rfl, rfl, hR17, hl4, by rw [List.length_map]; exact Nat.le_trans (show fs.length + 2 ≤ 22 by omega) (by decide), fun R4 nR4 => ?_⟩
        have em : fs.map V.ref ++ [V.ref f1, .ref f2] = (fs ++ [f1, f2]).map V.ref := by rw [List.map_append]; rfl
        rw [em]
        generalize hG : upd G17 R4 _ = G18
        have s18 : Same G17 G18 := by rw [← hG]; exact Same.new (Same.refl _) nR4
        have hR4 : G18 R4 = some (.lst ((fs ++ [f1, f2]).map V.ref)) := by rw [← hG]; exact upd_same
        clear hG hR17 hl4 em
        have tb18 := Tabs.ext tb17 s18
        refine ⟨_, rfl, .inl ⟨rfl, _, SqL.of hR4⟩, ?_⟩
        refine ⟨tb18, fun f3 c3 dV3 G19 e19 _ tb19 nf3 fa3 => ?_⟩
        have hR19 := e19 _ _ hR4 nt_lstC
        refine ⟨R4, _, .ref f3, rfl, rfl, hR19, by rw [List.length_map, List.length_append]; exact Nat.lt_of_le_of_lt (show fs.length + 2 ≤ 22 by omega) (by decide), ?_⟩
        have em : (fs ++ [f1, f2]).map V.ref ++ [V.ref f3] = (fs ++ [f1, f2] ++ [f3]).map V.ref := by rw [List.map_append (l₂ := [f3])]; rfl
        rw [em]
        have fa3 := fnAt_put (o := .lst ((fs ++ [f1, f2] ++ [f3]).map V.ref)) fa3 hR19
        have x20 : ExtN G17 (upd G19 R4 (.lst ((fs ++ [f1, f2] ++ [f3]).map V.ref))) := extN_put ((ExtN.of s18).trans e19) nR4
        have hR20 : upd G19 R4 (.lst ((fs ++ [f1, f2] ++ [f3]).map V.ref)) R4 = some (.lst ((fs ++ [f1, f2] ++ [f3]).map V.ref)) := upd_same
        have tb20 : Tabs (tz K) (upd G19 R4 (.lst ((fs ++ [f1, f2] ++ [f3]).map V.ref))) := Tabs.put1 tb19 hR19
        generalize upd G19 R4 (.lst ((fs ++ [f1, f2] ++ [f3]).map V.ref)) = G20 at fa3 x20 hR20 tb20 ⊢
        clear em hR19 tb19 tb18 s18 e19 hR4 nf3
        have W20 := W17.ext x20 tb20
        have DD20 := DD17.ext x20
        have C20 : ∀ f ∈ fs, DC P w K mg base pz dd G20 f := fun f hf => (C17 f hf).ext x20
        have fa1 := fnAt_ext fa1 x20
        have fa2 := fnAt_ext fa2 x20
        clear x20 W17 DD17 C17 tb17 nR4
        have key : ∀ (e8 : V) (p5 : Addr) (G21 : Hp) (QQ : VK), Same G20 G21 → G21 p5 = some (.tup [.str (dueZ dd), .int (dueI dd)]) → (∀ Hz, WD K d sl Hz → QQ (.bl true) Hz) → tCallS (cxOf CX0 P w K mg base N01 "law" (defScope s_law) (He.ga K "law") (.ref (He.codeOf K ("law", none))) A outer s H E).nox.env.cells N01 ["_law_program_here"] (sp_l_are P w K mg base 9) (tCons (tVar 9) (tCons (tVar 10) tNil)) [some (.ref a), some (.ref d), some (.int (0 + (i0 : Int))), some pz, v4, v5, v6, v7, some e8, some (.ref R4), some (.ref p5), v11] G21 QQ := fun e8 p5 G21 QQ s21 hp5 q => by
          refine ⟨_, rfl, _, rfl, fun y hy => ⟨3, pz, by rw [List.mem_singleton.mp hy]; rfl, rfl⟩, fun HP S => ?_⟩
          have sP : Same G21 HP := S.ext
          let σ0 : L2.St := [none, none, none, some pz, none, none, none, none, none, none, none, none]
          have hσ : ∀ (i : Nat) (u : V), σ0[i]? = some (some u) → ([some (.ref a), some (.ref d), some (.int (0 + (i0 : Int))), some pz, v4, v5, v6, v7, some e8, some (.ref R4), some (.ref p5), v11] : L2.St)[i]? = some (some u) := fun i u h => by
            match i, h with
            | 0, h => cases h
            | 1, h => cases h
            | 2, h => cases h
            | 3, h => exact h
            | 4, h => cases h
            | 5, h => cases h
            | 6, h => cases h
            | 7, h => cases h
            | 8, h => cases h
            | 9, h => cases h
            | 10, h => cases h
            | 11, h => cases h
            | _ + 12, h => cases h
          refine ⟨R4, p5, fs ++ [f1, f2] ++ [f3], pz, dd, rfl, sP _ _ (s21 _ _ hR20), sP _ _ hp5, fun f hf => ?_, fun H' s' => q _ (W20.same (s21.trans (back_same S s')))⟩
          have hf : f ∈ fs ∨ f = f1 ∨ f = f2 ∨ f = f3 := by simpa [List.mem_append] using hf
          rcases hf with hf | rfl | rfl | rfl
          · exact (C20 f hf).ext (ExtN.of (s21.trans sP))
          ·
            refine ⟨l3_, t3, doorOf (fnAt_same fa1 (s21.trans sP)) N01 σ0 (fun E => tCallX (sp_door K 1) E (tCons (tVar 3) (tCons (tLst (tCons (tTup tNil) tNil)) (tCons (tLst (tCons (tTup tNil) tNil)) tNil)))) (cloS_by (by kernel_rfl)) (fun A' outer' s' H' E f' hr' => pe_callX (E := E) F_times (hr'.mono (by decide)) rfl T.g_times T.k_times (passes_call (takes_of rfl rfl rfl rfl) (fun _ _ _ _ h => h)) (pa_cons (pv 3) (pa_cons (pe_lst (pa_cons (pe_tup pa_nil) pa_nil)) (pa_cons (pe_lst (pa_cons (pe_tup pa_nil) pa_nil)) pa_nil)))) (cells_at S rfl (ins_by (by kernel_rfl)) rfl hσ) (fun E Q H' D dr => ?_), DD20.same (s21.trans sP)⟩
            refine ⟨_, rfl, by show 0 ≤ sizeLine; decide, fun ta nta => ?_⟩
            refine ⟨by show 1 ≤ sizeLine; decide, fun la nla => ?_⟩
            refine ⟨by show 0 ≤ sizeLine; decide, fun tb ntb => ?_⟩
            refine ⟨by show 1 ≤ sizeLine; decide, fun lb nlb => ?_⟩
            generalize hG : upd (upd (upd (upd H' ta _) la _) tb _) lb _ = Hz
            have z1 : Same (upd (upd H' ta (.tup [])) la (.lst [.ref ta])) Hz := by rw [← hG]; exact (Same.new (Same.refl _) ntb).trans (Same.new (Same.refl _) nlb)
            have sz : Same H' Hz := ((Same.new (Same.refl _) nta).trans (Same.new (Same.refl _) nla)).trans z1
            have hla : Hz la = some (.lst [.ref ta]) := z1 _ _ upd_same
            have hta : Hz ta = some (.tup []) := z1 _ _ (by rw [upd_ne (ne_of_none upd_same nla)]; exact upd_same)
            clear hG z1
            exact ⟨pz, dd, la, ta, [_], rfl, rfl, dpS sz D.dp, D.pl, hla, hta, dr.same sz⟩
          ·
            refine ⟨l3_, t3, doorOf (fnAt_same fa2 (s21.trans sP)) N01 σ0 (fun E => tCallX (sp_door K 1) E (tCons (tVar 3) (tCons (tLst (tCons (tTup tNil) tNil)) (tCons (tLst (tCons (tTup tNil) tNil)) tNil)))) (cloS_by (by kernel_rfl)) (fun A' outer' s' H' E f' hr' => pe_callX (E := E) F_overs (hr'.mono (by decide)) rfl T.g_overs T.k_overs (passes_call (takes_of rfl rfl rfl rfl) (fun _ _ _ _ h => h)) (pa_cons (pv 3) (pa_cons (pe_lst (pa_cons (pe_tup pa_nil) pa_nil)) (pa_cons (pe_lst (pa_cons (pe_tup pa_nil) pa_nil)) pa_nil)))) (cells_at S rfl (ins_by (by kernel_rfl)) rfl hσ) (fun E Q H' D dr => ?_), DD20.same (s21.trans sP)⟩
            refine ⟨_, rfl, by show 0 ≤ sizeLine; decide, fun ta nta => ?_⟩
            refine ⟨by show 1 ≤ sizeLine; decide, fun la nla => ?_⟩
            refine ⟨by show 0 ≤ sizeLine; decide, fun tb ntb => ?_⟩
            refine ⟨by show 1 ≤ sizeLine; decide, fun lb nlb => ?_⟩
            generalize hG : upd (upd (upd (upd H' ta _) la _) tb _) lb _ = Hz
            have z1 : Same (upd (upd H' ta (.tup [])) la (.lst [.ref ta])) Hz := by rw [← hG]; exact (Same.new (Same.refl _) ntb).trans (Same.new (Same.refl _) nlb)
            have sz : Same H' Hz := ((Same.new (Same.refl _) nta).trans (Same.new (Same.refl _) nla)).trans z1
            have hla : Hz la = some (.lst [.ref ta]) := z1 _ _ upd_same
            have hta : Hz ta = some (.tup []) := z1 _ _ (by rw [upd_ne (ne_of_none upd_same nla)]; exact upd_same)
            clear hG z1
            exact ⟨pz, dd, la, ta, [_], rfl, rfl, dpS sz D.dp, D.pl, hla, hta, dr.same sz⟩
          ·
            refine ⟨l3_, t3, doorOf (fnAt_same fa3 (s21.trans sP)) N01 σ0 (fun E => tCallX (sp_door K 3) E (tCons (tVar 3) (tCons (tLst (tCons (tTup tNil) tNil)) (tCons (tUn (rU fun i => .int (-i)) (tC (.int 1))) (tCons (tC (.int 5)) (tCons (tC (.int 4)) tNil)))))) (cloS_by (by kernel_rfl)) (fun A' outer' s' H' E f' hr' => pe_callX (E := E) F_spread (hr'.mono (by decide)) rfl T.g_spread T.k_spread (passes_call (takes_of rfl rfl rfl rfl) (fun _ _ _ _ h => h)) (pa_cons (pv 3) (pa_cons (pe_lst (pa_cons (pe_tup pa_nil) pa_nil)) (pa_cons (pe_un un_neg pe_int) (pa_cons pe_int (pa_cons pe_int pa_nil)))))) (cells_at S rfl (ins_by (by kernel_rfl)) rfl hσ) (fun E Q H' D dr => ?_), DD20.same (s21.trans sP)⟩
            refine ⟨_, rfl, by show 0 ≤ sizeLine; decide, fun ta nta => ?_⟩
            refine ⟨by show 1 ≤ sizeLine; decide, fun la nla => ?_⟩
            generalize hG : upd (upd H' ta _) la _ = Hz
            have sz : Same H' Hz := by rw [← hG]; exact (Same.new (Same.refl _) nta).trans (Same.new (Same.refl _) nla)
            have hla : Hz la = some (.lst [.ref ta]) := by rw [← hG]; exact upd_same
            have hta : Hz ta = some (.tup []) := by rw [← hG, upd_ne (ne_of_none upd_same nla)]; exact upd_same
            clear hG
            exact ⟨1, rfl, pz, dd, la, ta, [_, _, _], rfl, rfl, dpS sz D.dp, D.pl, hla, hta, dr.same sz⟩
        rcases dueV dd with ⟨e1, e2, e3⟩ | ⟨i, e1, e2, e3⟩
        · rw [e1]
          rw [e2, e3] at key
          refine ⟨_, rfl, _, rfl, iteT ?_⟩
          refine ⟨by show 2 ≤ sizeLine; decide, fun p5 np5 => ?_⟩
          dsimp only [gName, List.set]
          refine viaC (W := WD K d sl) (fun QQ qq => ?_) (fun Hz Wz => ?_)
          · exact key .non p5 _ QQ (Same.new (Same.refl _) np5) upd_same qq
          · exact ⟨_, _, _, _, _, _, _, _, _, _, rfl, Wz⟩
        · rw [e1]
          rw [e2, e3] at key
          refine ⟨_, rfl, _, rfl, iteF ?_⟩
          refine ⟨_, rfl, by show 2 ≤ sizeLine; decide, fun p5 np5 => ?_⟩
          dsimp only [gName, List.set]
          refine viaC (W := WD K d sl) (fun QQ qq => ?_) (fun Hz Wz => ?_)
          · exact key (.int (i : Int)) p5 _ QQ (Same.new (Same.refl _) np5) upd_same qq
          · exact ⟨_, _, _, _, _, _, _, _, _, _, rfl, Wz⟩
    · rintro σ G1 ⟨v2, v3, v4, v5, v6, v7, v8, v9, v10, v11, rfl, W1⟩
      obtain ⟨_, _, _, _, _, tb1⟩ := W1
      refine ⟨by show 2 ≤ sizeLine; decide, fun r1 nr1 => ?_⟩
      refine ⟨by show 1 ≤ sizeLine; decide, fun t1 nt1 => ?_⟩
      generalize hG : upd (upd G1 r1 _) t1 _ = G2
      have s2 : Same G1 G2 := by rw [← hG]; exact (Same.new (Same.refl _) nr1).trans (Same.new (Same.refl _) nt1)
      have ht1 : G2 t1 = some (.tup [.ref r1]) := by rw [← hG]; exact upd_same
      have hr1 : G2 r1 = some (.tup [.str "rest", .int 1]) := by rw [← hG, upd_ne (ne_of_none upd_same nt1)]; exact upd_same
      clear hG
      dsimp only [tC]
      refine rep_oneT (SqT.of ht1) (by decide : (0 : Int) ≤ 40) (by decide : (40 : Int) ≤ 1000) (fun G3 pw hw s3 => ?_)
      have hr3 := s3 _ _ hr1
      have tb3 := Tabs.ext tb1 (s2.trans s3)
      refine ⟨tb3, fun G4 x4 tb4 EW hEW => ?_⟩
      have hr4 := x4 _ _ hr3 (fun ps z => by cases z)
      have hw4 : SqT K G4 pw ((List.replicate 40 r1).map V.ref) := by
        rcases hw with (h | ⟨o, h⟩) | h
        · exact .inl (.inl (x4 _ _ h (fun ps z => by cases z)))
        · exact .inl (.inr ⟨o, x4 _ _ h (fun ps z => by cases z)⟩)
        · exact .inr h
      clear hw hr3 hr1 ht1 tb3 tb1 tb4 x4 s3 s2
      refine ⟨_, rfl, by show 0 ≤ sizeLine; decide, fun wl nwl => ?_⟩
      refine ⟨by show 1 ≤ sizeLine; decide, fun z1 nz1 => ?_⟩
      refine ⟨z1, 4, [.int 0], rfl, rfl, upd_same, by decide, by decide, by show 1 * 4 ≤ sizeLine; decide, fun ml nml => ?_⟩
      refine ⟨by show 0 ≤ sizeLine; decide, fun al nal => ?_⟩
      generalize hG : upd (upd (upd (upd G4 wl _) z1 _) ml _) al _ = G5
      have z4 : Same (upd (upd (upd G4 wl (.lst [])) z1 (.lst [.int 0])) ml (.lst (List.replicate (4 : Int).toNat [V.int 0]).flatten)) G5 := by rw [← hG]; exact Same.new (Same.refl _) nal
      have z3 : Same (upd G4 wl (.lst [])) G5 := ((Same.new (Same.refl _) nz1).trans (Same.new (Same.refl _) nml)).trans z4
      have s5 : Same G4 G5 := (Same.new (Same.refl _) nwl).trans z3
      have hal : G5 al = some (.lst []) := by rw [← hG]; exact upd_same
      have hwl : G5 wl = some (.lst []) := z3 _ _ upd_same
      have hml : G5 ml = some (.lst (([0, 0, 0, 0] : List Int).map V.int)) := z4 _ _ upd_same
      clear hG z3 z4
      intro hh dh nh ndh ne
      have s6 : Same G5 (upd (upd G5 dh (.own hh)) hh (.ins (He.ga K "Hall") dh [])) := fun b o e => by
        rw [upd_ne (ne_of_none e nh), upd_ne (ne_of_none e ndh)]
        exact e
      have hhh : (upd (upd G5 dh (.own hh)) hh (.ins (He.ga K "Hall") dh [])) hh = some (.ins (He.ga K "Hall") dh []) := upd_same
      generalize upd (upd G5 dh (.own hh)) hh (.ins (He.ga K "Hall") dh []) = G6 at s6 hhh ⊢
      have s46 := s5.trans s6
      have hr6 : SqT K G6 r1 (Row.rest 1).vs := SqT.of (s46 _ _ hr4)
      have hw6 := Same.tup s46 hw4
      have Pr := (RowsAt.rep hr6 40).prog hw6
      have rok : ∀ r ∈ List.replicate 40 (Row.rest 1), r.ok (List.replicate 40 (Row.rest 1)).length := fun r hr => by
        rw [(List.mem_replicate.mp hr).2]
        exact ⟨by decide, by decide⟩
      have Dw : Dp K G6 (.ref pw) (.tuple wide) := .tup hw6 (by
        have := dp_rows (RowsAt.rep hr6 40).len (RowsAt.rep hr6 40).at_
        rw [List.map_replicate (f := rwD)] at this
        exact this)
      refine ⟨hh, dh, pw, wl, ml, al, _, [], [], List.replicate 40 (.rest 1), [], [0, 0, 0, 0], [], rfl, hhh, Pr, by decide, by decide, rok, ⟨SqL.of (s6 _ _ hwl), rfl, fun j t k e1 => by cases e1⟩, by decide, (fun k hk => by cases hk), SqL.of (s6 _ _ hml), by decide, by decide, (fun x hx => ?_), ⟨SqL.of (s6 _ _ hal), rfl, fun j t k e1 => by cases e1⟩, ⟨by show 0 ≤ 8; decide, (fun x hx => by cases hx), fun i x y h1 => (by simp at h1)⟩, fun G7 ha e7 h7 foot nal7 k7 => ?_⟩
      · have : x = 0 := by simpa using hx
        subst this
        exact ⟨by decide, by decide⟩
      have Dw7 := dp_kp k7 (fun b hb => by
        rw [List.mem_singleton.mp hb]
        exact ⟨_, hhh, rfl⟩) Dw wide_pl0
      refine ⟨rfl, ?_⟩
      refine ⟨_, rfl, iteT ?_⟩
      obtain ⟨us, hu7, Du7⟩ : ∃ us, SqT K G7 pw us ∧ DpAll K G7 us wide := by
        cases Dw7 with
        | tup h t => exact ⟨_, h, t⟩
      refine ⟨_, rfl, by show 1 ≤ sizeLine; decide, fun e1 ne1 => ?_⟩
      refine ⟨by show 1 ≤ sizeLine; decide, fun e2 ne2 => ?_⟩
      generalize hG : upd (upd G7 e1 _) e2 _ = G8
      have s8 : Same G7 G8 := by rw [← hG]; exact (Same.new (Same.refl _) ne1).trans (Same.new (Same.refl _) ne2)
      have he2 : G8 e2 = some (.tup [.ref e1]) := by rw [← hG]; exact upd_same
      have he1 : G8 e1 = some (.tup [.str "end"]) := by rw [← hG, upd_ne (ne_of_none upd_same ne2)]; exact upd_same
      clear hG
      refine cat_anyT (Same.tup s8 hu7) (SqT.of he2) (by rw [dpA_len Du7]; show 40 + 1 ≤ sizeLine; decide) (fun G9 p9 h9 s9 => ?_)
      refine ⟨.ref p9, .tuple (wide ++ [.tuple [.str "end"]]), rfl, .tup h9 (dpA_app (dpSs (s8.trans s9) Du7) (.cons (.tup (SqT.of (s9 _ _ he1)) (.cons (.str _) .nil)) .nil)), wide_pl, by decide +kernel, fun G10 s10 => ?_⟩
      rw [wide_first]
      refine ⟨rfl, ?_⟩
      have e40 : decide (oN (some 40) = V.int 40) = true := by
        show decide (V.int ((40 : Nat) : Int) = V.int 40) = true
        rw [dec_int']
        rfl
      show Q (.bl (decide (oN (some 40) = V.int 40))) G10
      rw [e40]
      exact q _
end
end SB

set_option Elab.async false
set_option linter.all false
set_option maxRecDepth 100000
set_option maxHeartbeats 4000000
namespace SB
open PySem PySem.Spec PyProof.Rows L2 LamX
theorem walk_ofTW {l : PySem.W.OpenLaw} {n k : Nat} {q : Program} {loose : List Str} {XP : (Str → Option Value) → Heap → Prop} {YP : World → Heap → Prop} {dr : DefRec} {x : Str} (h1 : l.most = some n) (h2 : n ≤ sizeLine) (h3 : dr.params.defaults = []) (h4 : Room k callerA)
    (hF : ∀ (w : World) (mg : Str → Option Value) (fa : Addr) (hp : Heap), YP w hp → hp.Ns mainGlobals mg → mg dr.name = some (.ref fa) → ∃ K : PySem.W.Frag, K.In hp ∧ LawAtS l w K CX0 k n x mg fa hp) : PySem.W.WalkO q loose XP YP l.row.toRowW dr [] (fun f vs => PySem.call f vs) := by
  refine Att.attach_callB h1 h3 ?_
  intro w s₀ s₁ mg mb fa o pm cd doc a vs ns G Y _ _ _ hmg hob hin hle hbi hge
  obtain ⟨K, KX, fd, cs, sp, a1, a2, a3, a4, a5, a6⟩ := hF w mg fa _ Y G.T.g hmg
  refine law_callTs KX G.T.g G.T.b G.T.builtins G.T.nolimit hge a1 a2 a3 G.T.bmain hob hin (Nat.le_trans hle h2) h4 a6 a4 (fun H hH hS => a5 H a ns hle hbi hH hS) ?_
  exact fun _ _ _ z => z
end SB

set_option Elab.async false
set_option linter.all false
set_option maxRecDepth 100000
set_option maxHeartbeats 0
open PySem PySem.W PySem.Calls PyProof.Rows
theorem PySem.Challenge.cw_stealbeats_k01_programs_refused_holds : PySem.Challenge.rw_stealbeats_k01_programs_refused.Holds := by
  w_on; o_law
  refine HandSHeadRun.head_any (r := OpenLaw.row PySem.Challenge.rw_stealbeats_k01_programs_refused) (q := view (OpenLaw.row PySem.Challenge.rw_stealbeats_k01_programs_refused).prog [124]) (H := SB.hk) (ob := SB.ob) (M := 9000) (loose := SB.loose) (d := HandSHeadRun.topDef (OpenLaw.row PySem.Challenge.rw_stealbeats_k01_programs_refused).prog 124) (kwd := []) SB.ob_eq
    (by kernel_rfl) (fun s => by kernel_rfl) SB.run (by kernel_rfl) (by kernel_rfl) (by kernel_rfl) (by rfl) (by first | assumption | decide +kernel) (by decide +kernel) ⟨rfl, rfl, rfl, rfl, rfl, by decide +kernel⟩ ?hw ?hc
  case hw => w_witness2
  case hc =>
    refine SB.walk_ofTW (l := PySem.Challenge.rw_stealbeats_k01_programs_refused) (n := 63) (k := 13) (x := "_law_script") rfl (by decide) (by kernel_rfl) ⟨rfl, by decide, by decide⟩ ?F
    intro w mg fa h Y G hmg0
    obtain ⟨K, KX, c⟩ := Y
    have hmg : mg ("law" : PySem.Str) = some (.ref fa) := by
      have e : (HandSHeadRun.topDef (OpenLaw.row PySem.Challenge.rw_stealbeats_k01_programs_refused).prog 124).name = ("law" : PySem.Str) := by kernel_rfl
      rw [← e]
      exact hmg0
    have T := SB.mkT KX G c
    have e := hmg.symm.trans T.g_law
    cases e
    obtain ⟨fd, F⟩ := T.f_law
    have b := L2.FunD.bindsA (ps := ["_law_script"]) F fun _ _ _ _ _ _ us hl => match us, hl with | [_], _ => rfl
    have one : ∀ p ∈ [(SB.cD K, SB.tD K), (SB.cW K, SB.tW K), (SB.cL K, SB.tL K)], ∃ q ∈ SB.tf, p = He.cT K q := fun p hp => by
      simp only [List.mem_cons, List.not_mem_nil, or_false] at hp
      rcases hp with rfl | rfl | rfl
      · exact ⟨("_law_doors", none), by simp [SB.tf], rfl⟩
      · exact ⟨("_law_windows", none), by simp [SB.tf], rfl⟩
      · exact ⟨("law", none), by simp [SB.tf], rfl⟩
    refine ⟨K, KX, fd, [(SB.cD K, SB.tD K), (SB.cW K, SB.tW K), (SB.cL K, SB.tL K)], SB.spLaw01 K, fun p hp => ?_, fun p hp => ?_, fun p hp => ?_, fun s v => b s [v] rfl, fun H a ns hl _ hT hS => ⟨a, ns, rfl, hS, hl, fun p hp => ?_, fun _ => rfl⟩, fun base _ _ TB => SB.ok_law T ⟨⟨_, PySem.BadX.badB_ok T.x_bad_BadProgram T.g_BadProgram T.u_super (by kernel_rfl) (by kernel_rfl) (by decide +kernel) (by decide +kernel)⟩, ⟨_, PySem.BadX.badB_ok T.x_bad_BadWorks T.g_BadWorks T.u_super (by kernel_rfl) (by kernel_rfl) (by decide +kernel) (by decide +kernel)⟩⟩ (TB (SB.cD K, SB.tD K) (by simp)) (TB (SB.cW K, SB.tW K) (by simp)) (TB (SB.cL K, SB.tL K) (by simp)) F⟩
    · obtain ⟨q, hq, e⟩ := one p hp
      rw [e]
      exact c.empty _ hq
    · obtain ⟨q, hq, e⟩ := one p hp
      rw [e]
      exact c.out _ hq
    · obtain ⟨q, hq, e⟩ := one p hp
      rw [e]
      exact PySem.W.codeHd_of_K KX (c.hd _ hq)
    · unfold SB.tz at hp
      simp only [List.mem_cons, List.not_mem_nil, or_false] at hp
      rcases hp with rfl | rfl | rfl
      · exact LamX.TabS.nil (hT (SB.cD K, SB.tD K) (by simp))
      · exact LamX.TabS.nil (hT (SB.cW K, SB.tW K) (by simp))
      · exact LamX.TabS.nil (hT (SB.cL K, SB.tL K) (by simp))

