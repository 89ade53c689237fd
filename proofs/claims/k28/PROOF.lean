import PyProof.Rows.All
import Wide.All
import OpenK.AllK
import Wide.FinOn
import HandS.Base
import HandS.Call
import HandS.List
import HandS.Words
import KE.GoesEnum
import HandS.Iter
import HandS.ForMost
import HandS.More
import HandS.Star
import HandS.Defaults
import HandS.IsInst
import KE.KStateDown
import HandS.Zip
import HandS.TupMul
import HandS.Walk
import HandS.HeadHook4
import HandS.Head0
import HandS.Head1
import HandS.Head2
import HandS.HeadEnd
import PySem.Challenge.RW_stealbeats_k28_written_and_read
import HandS.TupAny
import HandS.TryOnly
import KE.KDictPairs
import HandS.Dict
import HandS.Comp
import HandS.Text
import HandS.RaiseMore
import KE.KDictLaws
import HandS.Small
import KE.KLam
import KE.SortKeyHeap
import HandS.Lambda
import HandS.SortKw
import HandS.EndTab
import PyProof.EqAt
import PyProof.EqKinds
import PyProof.NeKinds
import HandS.Style
set_option Elab.async false
set_option linter.all false
set_option maxRecDepth 100000
namespace L2
open PySem PySem.Spec PyProof.Rows
section
variable {X : Cx}
abbrev Bd := Option (List (Nat × V))
def RelB (X : Cx) : Bd → Option (List (Str × Value)) → Prop
  | none, none => True
  | some bs, some us => Paired (fun (p : Nat × V) (q : Str × Value) => X.N[p.1]? = some q.1 ∧ Loc X.env.scope q.1 ∧ (X.fn q.1 = true ∨ X.env.scope.names.lookup q.1 = some .local) ∧ RelV p.2 q.2) bs us
  | _, _ => False
abbrev TPat := V → St → Hp → (Bd → Hp → Prop) → Prop
abbrev TPats := List V → St → Hp → (Bd → Hp → Prop) → Prop
structure PPat (X : Cx) (p : Pattern) (t : TPat) : Prop where
  run : ∀ (pins : List (Addr × Obj)) (s : Shared) (σ : St) (H : Hp) (v : V) (u : Value) (Q : Bd → Hp → Prop), Inv X pins σ H s → RelV v u → t v σ H Q →
    wpAny (model X.prog X.w) X.A (matchPattern p X.env u) (fun r s' => ∃ r' H', Inv X pins σ H' s' ∧ RelB X r' r ∧ Q r' H') X.xe s
structure PFst (X : Cx) (ps : List Pattern) (t : TPat) : Prop where
  run : ∀ (pins : List (Addr × Obj)) (s : Shared) (σ : St) (H : Hp) (v : V) (u : Value) (Q : Bd → Hp → Prop), Inv X pins σ H s → RelV v u → t v σ H Q →
    wpAny (model X.prog X.w) X.A (matchFirst ps X.env u) (fun r s' => ∃ r' H', Inv X pins σ H' s' ∧ RelB X r' r ∧ Q r' H') X.xe s
structure PEach (X : Cx) (ps : List Pattern) (t : TPats) : Prop where
  run : ∀ (pins : List (Addr × Obj)) (s : Shared) (σ : St) (H : Hp) (vs : List V) (us : List Value) (Q : Bd → Hp → Prop), Inv X pins σ H s → Vals vs us → t vs σ H Q →
    wpAny (model X.prog X.w) X.A (matchEach ps X.env us) (fun r s' => ∃ r' H', Inv X pins σ H' s' ∧ RelB X r' r ∧ Q r' H') X.xe s

def tpStr (x : Str) : TPat := fun v _ H Q => scal v (.str x) = true ∧ Q (if v = .str x then some [] else none) H
theorem pp_str {x : Str} {j pos pos'} : PPat X (.MatchValue (.Constant (.str x) j pos) pos') (tpStr x) := by
  refine ⟨fun pins s σ H v u Q I r h => ?_⟩
  obtain ⟨h1, h2⟩ := h
  refine wpAny_matchPattern_Value (Calls.Constant_str ?_)
  refine thn (op_eq pins _ σ H v (.str x) u _ (fun c H' => c = .bl (decide (v = .str x)) ∧ H' = H) (I.tok _) r ⟨_, rfl⟩ ⟨h1, rfl, rfl⟩) fun c s2 ⟨y, H1, I1, r1, q1, q2⟩ => ?_
  subst q1 q2
  cases r1
  refine wpAny_truthy_bool ?_
  by_cases e : v = .str x
  · rw [if_pos e] at h2
    rw [if_pos (decide_eq_true e)]
    exact ⟨some [], _, I1, .nil, h2⟩
  · rw [if_neg e] at h2
    rw [if_neg (by simp [e])]
    exact ⟨none, _, I1, trivial, h2⟩
def tpName (i : Nat) : TPat := fun v _ H Q => Q (some [(i, v)]) H
theorem pp_name {i : Nat} {x : Str} {pos} (hi : X.N[i]? = some x) (hx : Loc X.env.scope x) (hf : X.fn x = true ∨ X.env.scope.names.lookup x = some .local := by first | exact .inl rfl | exact .inr rfl | assumption) :
    PPat X (.MatchAs none (some x) pos) (tpName i) := by
  refine ⟨fun pins s σ H v u Q I r h => ?_⟩
  exact wpAny_matchPattern_Capture ⟨some [(i, v)], H, I, (show RelB X (some [(i, v)]) (some [(x, u)]) from Paired.cons ⟨hi, hx, hf, r⟩ Paired.nil), h⟩
def tpNo : TPat := fun _ _ H Q => Q none H
def tpElse (t u : TPat) : TPat := fun v σ H Q => t v σ H fun r H1 => match r with
  | some bs => Q (some bs) H1
  | none => u v σ H1 Q
theorem pf_nil : PFst X [] tpNo := ⟨fun pins s σ H v u Q I r h => wpAny_matchFirst_nil ⟨none, H, I, trivial, h⟩⟩
theorem pf_cons {p : Pattern} {ps : List Pattern} {t u : TPat} (h1 : PPat X p t) (h2 : PFst X ps u) : PFst X (p :: ps) (tpElse t u) := by
  refine ⟨fun pins s σ H v u Q I r h => ?_⟩
  refine wpAny_matchFirst_cons (thn (h1.run pins s σ H v u _ I r h) fun b s1 ⟨b', H1, I1, rb, q⟩ => ?_)
  cases b with
  | none =>
    cases b' with
    | none => exact h2.run pins s1 σ H1 v u Q I1 r q
    | some _ => exact rb.elim
  | some us =>
    cases b' with
    | none => exact rb.elim
    | some bs => exact ⟨some bs, H1, I1, rb, q⟩
def tpOr (t : TPat) : TPat := fun v σ H Q => t v σ H fun r H1 => match r with
  | some _ => Q (some []) H1
  | none => Q none H1
theorem pp_or {ps : List Pattern} {t : TPat} {pos} (h : PFst X ps t) (hn : namesOfAll (ps.take 1) = [] := by rfl) : PPat X (.MatchOr ps pos) (tpOr t) := by
  refine ⟨fun pins s σ H v u Q I r hw => ?_⟩
  refine wpAny_matchPattern_Or (thn (h.run pins s σ H v u _ I r hw) fun b s1 ⟨b', H1, I1, rb, q⟩ => ?_)
  cases b with
  | none =>
    cases b' with
    | none => exact ⟨none, H1, I1, trivial, q⟩
    | some _ => exact rb.elim
  | some us =>
    cases b' with
    | none => exact rb.elim
    | some bs =>
      rw [hn]
      exact ⟨some [], H1, I1, .nil, q⟩
def tqNil : TPats := fun _ _ H Q => Q (some []) H
def tqCons (t : TPat) (u : TPats) : TPats := fun vs σ H Q => ∃ v rest, vs = v :: rest ∧ t v σ H fun r H1 => match r with
  | none => Q none H1
  | some bs => u rest σ H1 fun r' H2 => match r' with
    | none => Q none H2
    | some more => Q (some (bs ++ more)) H2
theorem pq_nil : PEach X [] tqNil := ⟨fun pins s σ H vs us Q I r h => wpAny_matchEach_nil ⟨some [], H, I, .nil, h⟩⟩
theorem Paired.append' {α β : Type} {R : α → β → Prop} : ∀ {a b : List α} {c d : List β}, Paired R a c → Paired R b d → Paired R (a ++ b) (c ++ d)
  | _, _, _, _, .nil, h => h
  | _, _, _, _, .cons r t, h => .cons r (Paired.append' t h)
theorem pq_cons {p : Pattern} {ps : List Pattern} {t : TPat} {u : TPats} (h1 : PPat X p t) (h2 : PEach X ps u) (hp : p.isStar = false := by rfl) : PEach X (p :: ps) (tqCons t u) := by
  refine ⟨fun pins s σ H vs us Q I r h => ?_⟩
  obtain ⟨v, rest, e, h⟩ := h
  subst e
  cases r with
  | cons r rr =>
    refine wpAny_matchEach_cons (thn (h1.run pins s σ H v _ _ I r h) fun b s1 ⟨b', H1, I1, rb, q⟩ => ?_) hp
    cases b with
    | none =>
      cases b' with
      | none => exact ⟨none, H1, I1, trivial, q⟩
      | some _ => exact rb.elim
    | some us =>
      cases b' with
      | none => exact rb.elim
      | some bs =>
        refine thn (h2.run pins s1 σ H1 rest _ _ I1 rr q) fun b2 s2 ⟨b2', H2, I2, rb2, q2⟩ => ?_
        cases b2 with
        | none =>
          cases b2' with
          | none => exact ⟨none, H2, I2, trivial, q2⟩
          | some _ => exact rb2.elim
        | some us2 =>
          cases b2' with
          | none => exact rb2.elim
          | some bs2 => exact ⟨some (bs ++ bs2), H2, I2, Paired.append' rb rb2, q2⟩
def tpSeq (K : PySem.W.Frag) (n : Nat) (t : TPats) : TPat := fun v σ H Q => ∃ a xs, v = .ref a ∧ SqT K H a xs ∧ if xs.length = n then t xs σ H Q else Q none H
theorem pp_seq {ps : List Pattern} {t : TPats} {pos} {n : Nat} (hc : X.calm = true) (h : PEach X ps t) (hn : ps.length = n := by rfl) (hstar : ps.findIdx? (·.isStar) = none := by rfl)
    (hwild : (ps.all fun p => p.isWildcard || (p.isStar && p.names.isEmpty)) = false := by rfl) : PPat X (.MatchSequence ps pos) (tpSeq X.K n t) := by
  refine ⟨fun pins s σ H v u Q I r hw => ?_⟩
  obtain ⟨a, xs, e, hq, hw⟩ := hw
  subst e hn
  cases r
  obtain ⟨its, rv, ht, hz⟩ := I.tuple hq
  have hl := rv.length
  have hfit : (its.toArray.size : Int) < 2 ^ 63 := by
    have : (sizeLine : Int) < 2 ^ 63 := by decide
    simp
    omega
  by_cases en : xs.length = ps.length
  · rw [if_pos en] at hw
    refine matchSeq_tuple_hit ht hfit (by simp; omega) ?_ hstar hwild
    have e2 : ps.length = its.toArray.size := by simp; omega
    rw [e2]
    refine unpackItems_tuple (s := { s with toks := s.toks + 1 + 1 }) (I.ok.hd hc) ht fun h' hx => ?_
    have I1 : Inv X pins σ H { s with toks := s.toks + 1 + 1, heap := h' } := (I.tok (s.toks + 1 + 1)).kept (t' := s.toks + 1 + 1) fun b o e => hx b o (Nat.ne_of_lt (Heap.lt_size e)) e
    exact h.run pins _ σ H xs _ Q I1 (by simpa using rv) hw
  · rw [if_neg en] at hw
    exact matchSeq_tuple_miss ht hfit (by simp; omega) ⟨none, H, I.tok _, trivial, hw⟩ hstar hwild
def bindAll : List (Nat × V) → St → St
  | [], σ => σ
  | (i, v) :: r, σ => bindAll r (σ.set i (some v))
theorem bind_ok {M : Model} {A : Around} {E : Value → Shared → Prop} {pins : List (Addr × Obj)} {H : Hp} (hN : X.N.Nodup) {bs : List (Nat × V)} {us : List (Str × Value)} {σ : St} {s : Shared} {Q : Unit → Shared → Prop}
    (rb : RelB X (some bs) (some us)) (I : Inv X pins σ H s) (h : ∀ s', Inv X pins (bindAll bs σ) H s' → Q () s') : wpAny M A (assignInOrder (us.map fun (n, _) => bindName X.env n) (us.map (·.2))) Q E s := by
  have rb' : Paired (fun (p : Nat × V) (q : Str × Value) => X.N[p.1]? = some q.1 ∧ Loc X.env.scope q.1 ∧ (X.fn q.1 = true ∨ X.env.scope.names.lookup q.1 = some .local) ∧ RelV p.2 q.2) bs us := rb
  clear rb
  induction rb' generalizing σ s with
  | nil => exact wpAny_assignInOrder_none (h s I)
  | cons r _ ih =>
    obtain ⟨h1, h2, h3, h4⟩ := r
    exact wpAny_assignInOrder_more (wpAny_bindName (store_ok I hN h1 h2 h4 (fun s' I' => ih I' h) h3))
abbrev TMc := V → TS
structure PMc (X : Cx) (cs : List MatchCase) (t : TMc) : Prop where
  run : ∀ (first : Bool) (pins : List (Addr × Obj)) (s : Shared) (σ : St) (H : Hp) (v : V) (u : Value) (D : Ends), Inv X pins σ H s → RelV v u → t v D σ H → wpAny (model X.prog X.w) X.A (matchCases cs X.env u first) (SP X pins D) X.xe s
def tmNil : TMc := fun _ D σ H => D.nx σ H
def tmCons (p : TPat) (b : TS) (u : TMc) : TMc := fun v D σ H => p v σ H fun r H1 => match r with
  | none => u v D σ H1
  | some bs => b D (bindAll bs σ) H1
theorem pm_nil : PMc X [] tmNil := ⟨fun _ pins s σ H v u D I r h => wpAny_matchCases_nil ⟨σ, H, I, h⟩⟩
theorem pm_cons {p : Pattern} {body : List Stmt} {cs : List MatchCase} {tp : TPat} {tb : TS} {u : TMc} (hN : X.N.Nodup) (h1 : PPat X p tp) (h2 : PSs X body tb) (h3 : PMc X cs u) : PMc X (⟨p, none, body⟩ :: cs) (tmCons tp tb u) := by
  refine ⟨fun first pins s σ H v uu D I r h => ?_⟩
  refine wpAny_matchCases_cons (thn (h1.run pins s σ H v uu _ I r h) fun b s1 ⟨b', H1, I1, rb, q⟩ => ?_)
  cases b with
  | none =>
    cases b' with
    | none => exact h3.run false pins s1 σ H1 v uu D I1 r q
    | some _ => exact rb.elim
  | some us =>
    cases b' with
    | none => exact rb.elim
    | some bs => exact bind_ok hN rb I1 fun s2 I2 => h2.run pins s2 _ H1 D I2 q
def tMatch (te : TE) (tm : TMc) : TS := fun D σ H => te σ H fun v H1 => tm v D σ H1
theorem ps_match {e : Expr} {cs : List MatchCase} {te : TE} {tm : TMc} {pos} (he : PE X e te) (hm : PMc X cs tm) : PS X (.Match e cs pos) (tMatch te tm) := by
  refine ⟨fun pins s σ H D I h => ?_⟩
  exact wpAny_Match (thn (he.run pins s σ H _ I h) fun v s1 ⟨x, H1, I1, r1, q1⟩ => hm.run true pins s1 σ H1 x v D I1 r1 q1)
end
end L2

set_option Elab.async false
set_option linter.all false
set_option maxRecDepth 100000
namespace PySem
open Sem (wp)
open AutoSeq1 (wpAny_loadPart')
set_option maxHeartbeats 1000000 in
theorem meets_enumerate_new1 {v : Value} {o : Obj} {H : Heap → Prop} (B : Begins v o H) :
    Meets (Builtin.«enumerate.__new__» ⟨[.type "enumerate", v], []⟩) (fun _ R s => H s.heap ∧
      R (.ok (.ret (.ref (s.heap.push o).objs.size))) { s with heap := (s.heap.push o).push { cls := .type "enumerate", data := .fields #[.none, .bool false, .ref s.heap.objs.size, rawInt 0, .none, .none] } }) :=
  .of_wp fun prog w A R s h => by
    obtain ⟨hp, g, d, tk, os⟩ := s; obtain ⟨h1, h⟩ := h
    have hsub := sub_enumerate
    have q1 : ∀ {A' : Around} {E : Value → Shared → Prop} {Q : Value → Shared → Prop}, Q (.ref hp.objs.size) ⟨hp.push o, g, d, tk, os⟩ → wpAny (model prog w) A' (pyIter v) Q E ⟨hp, g, d, tk, os⟩ :=
      fun q => B.iter prog w _ _ ⟨hp, g, d, tk, os⟩ _ h1 q
    wp_walk using q1
    refine wpAny_stack_any fun st => wpAny_pure ?_
    split
    · rename_i c _ _ _ _ _
      cases (c == Value.type "enumerate")
      · wp_walk using q1
        exact ⟨_, rfl, h⟩
      · wp_walk using q1
        exact ⟨_, rfl, h⟩
    · wp_walk using q1
      exact ⟨_, rfl, h⟩
theorem enum_begins1 {prog : Program} {w : World} {A : Around} {E : Value → Shared → Prop} {s : Shared} {v : Value} {o : Obj} {H : Heap → Prop} {Q : Value → Shared → Prop} (B : Begins v o H) (h1 : H s.heap)
    (h : ∀ h', IsEnum h' (s.heap.objs.size + 1) s.heap.objs.size 0 .none → h'.get? s.heap.objs.size = some o → h'.objs.size = s.heap.objs.size + 2 →
      (∀ b o, s.heap.get? b = some o → h'.get? b = some o) → Q (.ref (s.heap.objs.size + 1)) { s with heap := h' }) :
    wpAny (model prog w) A (call (.type "enumerate") [v]) Q E s := by
  refine callType_new F.called_enumerate (by decide) (F.typeCall_enumerate_1 _) (F.newCall_enumerate_1 _) (fun obj => F.args_object_init_2 obj _) F.entry_enumerate_new
    (meets_enumerate_new1 B) ⟨h1, ?_⟩
  have hz : (s.heap.push o).objs.size = s.heap.objs.size + 1 := Heap.size_push ..
  show _ ∧ _
  rw [hz]
  have he : IsEnum ((s.heap.push o).push { cls := .type "enumerate", data := .fields #[.none, .bool false, .ref s.heap.objs.size, rawInt 0, .none, .none] }) (s.heap.objs.size + 1) s.heap.objs.size 0 .none := by
    have := Heap.get?_push_size (s.heap.push o) (o := { cls := .type "enumerate", data := .fields #[.none, .bool false, .ref s.heap.objs.size, rawInt 0, .none, .none] }) rfl
    rw [hz] at this; exact this
  refine ⟨⟨_, he, rfl⟩, h _ he (Heap.get?_push_of_some _ (Heap.get?_push_size _ B.free)) (by rw [Heap.size_push, hz]) fun b o x => Heap.get?_push_of_some _ (Heap.get?_push_of_some _ x)⟩
end PySem
namespace L2
open PySem PySem.Spec PyProof.Rows
def IteT (K : PySem.W.Frag) (a : Addr) : It :=
  ⟨fun i H => ∃ (xs : List V) (x : V), SqT K H a xs ∧ xs[i]? = some x, fun i H v H' => ∃ T x, v = .ref T ∧ H T = none ∧ H' = upd H T (.tup [.int (i : Nat), x]) ∧ ∀ xs, SqT K H a xs → xs[i]? = some x, fun i H => ∃ xs : List V, SqT K H a xs ∧ xs.length ≤ i⟩
theorem pyNext_enumT_end {prog : Program} {w : World} {A : Around} {E : Value → Shared → Prop} {s : Shared} {e it l : Addr} {i : Nat} {items : Array Value} {old : Value} {Q : Option Value → Shared → Prop} (hh : A.handled = none)
    (he : IsEnum s.heap e it i old) (hit : s.heap.IsTupleIter it l i) (hl : s.heap.IsTuple l items) (hx : items[i]? = none)
    (hQ : ∀ h', Heap.ExtBut it s.heap h' → Q none { s with heap := h' }) : wpAny (model prog w) A (pyNext (.ref e)) Q E s := by
  have hT : s.TypeIs (.ref e) "enumerate" := ⟨_, he, rfl⟩
  unfold pyNext
  refine wpAny_bind (wpAny_attempt (wpAny_callSpecial?_slot (name := Str.ofString "__next__") hT F.slot_enumerate_next
    (wpAny_call_entry F.slot_enumerate_next hT F.entry_enumerate_next ?_ (F.args_enumerate_next_1 _))))
  show wpAny _ _ (field (.ref e) 2 >>= _) _ _ _
  refine wpAny_bind (wpAny_field he rfl (x := .ref it) rfl ?_)
  refine wpAny_bind (wpAny_nextOf_tuple_end hh hit hl hx fun h' x he' hx' => ?_)
  obtain ⟨o, ho, hc⟩ := hx'
  refine wpAny_bind (wpAny_isInstance (T := "StopIteration") (b := true) ⟨o, ho, hc⟩ isSubtype_stop ?_)
  exact wpAny_pure (hQ _ he')
theorem turn_enumT {P : Program} {w : World} {K : PySem.W.Frag} {elts : List Expr} {kk : Nat} {tpos : Pos} (a e it : Addr) :
    Turn P w K (.Tuple elts kk tpos) (IteT K a) [e, it] e (fun i h => (∃ old, IsEnum h e it ((i : Nat) : Int) old) ∧ h.IsTupleIter it a i ∧ e ≠ it) where
  mem := by simp
  obj := fun i h st b hb => by
    obtain ⟨⟨old, he⟩, ⟨o, ho, hc, hd⟩, _⟩ := st
    have e' : b = e ∨ b = it := by simpa using hb
    rcases e' with z | z
    · rw [z]; exact ⟨_, he, fun v q => nomatch q⟩
    · rw [z]; exact ⟨o, ho, fun v q => by rw [hd] at q; cases q⟩
  keep := fun i h h' st k => let ⟨⟨old, he⟩, hi, hne⟩ := st; ⟨⟨old, k e (by simp) _ he⟩, hi.at fun o q => k it (by simp) o q, hne⟩
  item := by
    intro X hP hw hK hc i pins s σ H E I hf st hg
    subst hP hw hK
    obtain ⟨⟨old, he⟩, hit, hne⟩ := st
    obtain ⟨xs, x, hq, hx⟩ := hg
    obtain ⟨its, rv, p, hz⟩ := I.tuple hq
    obtain ⟨u, hu, ru⟩ := rv.get hx
    have hel : e < s.heap.objs.size := Heap.lt_size he
    have hil : it < s.heap.objs.size := by obtain ⟨_, q, _⟩ := hit; exact Heap.lt_size q
    have p' : s.heap.IsTuple a its.toArray := p
    have ea : e ≠ a := by
      rintro rfl
      obtain ⟨o, ho, hc', _⟩ := p'
      rw [he] at ho
      cases ho
      exact absurd (show Value.type "enumerate" = Value.type "tuple" from hc') (by decide)
    have ia : it ≠ a := by
      rintro rfl
      obtain ⟨o, ho, hc', _⟩ := p'
      obtain ⟨o2, ho2, hc2, _⟩ := hit
      rw [ho2] at ho
      cases ho
      rw [hc2] at hc'
      exact absurd hc' (by decide)
    have hlt : i < its.toArray.size := by
      have := (List.getElem?_eq_some_iff.mp hu).1
      simpa using this
    refine wpAny_pyNext_enum_itemD (Draws.tuple (show X.A.in1.handled = none from I.ok.hd hc) it a (Ne.symm ia) its.toArray) he ⟨hit, p'⟩ hlt hne (by simp [hne, ea]) fun x' h' tk hPx ho hst' hT hsz hk => ?_
    have hxu : x' = u := by
      have e1 : its.toArray[i]? = some x' := hPx
      have e2 : its.toArray[i]? = some u := by simpa using hu
      rw [e1] at e2
      exact Option.some.inj e2
    subst hxu
    refine ⟨_, rfl, wpAny_letOwnedTupleGo_enum (s := { s with heap := h', toks := tk + 1 }) ho fun h'' he' sb => ?_⟩
    have hT2 : h''.get? s.heap.objs.size = some { cls := .type "tuple", data := .seq #[.int i tk, x'] } := (sb.2 _ (Nat.ne_of_gt hel)).trans hT
    have new : ObjOk X.prog X.w (upd H s.heap.objs.size (.tup [.int (i : Nat), x])) h'' s.heap.objs.size (.tup [.int (i : Nat), x]) :=
      ⟨by show 2 ≤ sizeLine; decide, [.int i tk, x'], .cons ⟨_, rfl⟩ (.cons ru .nil), ⟨_, hT2, rfl, _, rfl⟩⟩
    have I1 : Inv X pins σ (upd H s.heap.objs.size (.tup [.int (i : Nat), x])) { s with heap := h'', toks := tk + 1 } :=
      I.turnedNew (ch := [e, it]) (fun b ob hb q => (sb.2 b (fun z => hb (by simp [z]))).trans (hk b ob (fun z => hb (by simp [z])) (fun z => hb (by simp [z])) q)) hf (Nat.le_refl _) new
    refine ⟨.ref s.heap.objs.size, _, I1, rfl, ⟨_, x, rfl, I.hok.fresh (Nat.le_refl _), rfl, fun ys hy => by rw [I.tuple_inj hy hq]; exact hx⟩, ⟨⟨x', ?_⟩, hst'.1.at fun o q => (sb.2 it (Ne.symm hne)).trans q, hne⟩, fun b hb => ?_⟩
    · have e1 : ((i + 1 : Nat) : Int) = (i : Int) + 1 := by omega
      rw [e1]; exact he'
    · have hb' : b < s.heap.objs.size := by
        have e' : b = e ∨ b = it := by simpa using hb
        rcases e' with z | z
        · rw [z]; exact hel
        · rw [z]; exact hil
      rw [upd_ne (Nat.ne_of_lt hb')]
      exact (hf b hb).1
  done := by
    intro X hP hw hK hc i pins s σ H E I hf st hg
    subst hP hw hK
    obtain ⟨⟨old, he⟩, hit, hne⟩ := st
    obtain ⟨xs, hq, hx⟩ := hg
    obtain ⟨its, rv, p, hz⟩ := I.tuple hq
    obtain ⟨f0, f1, f2, f3, f4, f5⟩ := hf it (by simp)
    have hl := rv.length
    exact pyNext_enumT_end (I.ok.hd hc) he hit p (by simp; omega) fun h' eb => ⟨rfl, I.turned (t' := s.toks) (fun b o hb q => eb b o hb q) f0 f1 f3 f4 f5⟩
  self := fun A i s Q E st h => let ⟨⟨_, he⟩, _⟩ := st; wpAny_pyIter_enum he h
def iEnumT (K : PySem.W.Frag) (ta : TA) : TI := fun σ H R => ta σ H fun vs H1 => ∃ a xs, vs = [.ref a] ∧ SqT K H1 a xs ∧ R (IteT K a) H1
theorem pi_enumT {X : Cx} {e : Expr} {ta : TA} {p pos tpos : Pos} {elts : List Expr} {kk : Nat} (hg : Gl X "enumerate") (hm : X.mg "enumerate" = none) (ha : PA X [e] ta) (hs : starEach [e] X.env = [(false, eval e X.env)] := by rfl) :
    PI X (.Tuple elts kk tpos) (.Call (.Name "enumerate" p) [e] [] pos) (iEnumT X.K ta) := by
  refine ⟨fun pins s σ H R I h => ?_⟩
  refine Call_ (ld_blt I hg hm boot_enumerate (PyProof.Rows.callWith_type1 (thn (ha.run pos pins s σ H _ I h) fun us s1 ⟨vs, H1, I1, r1, q1⟩ => ?_) hs rfl))
  obtain ⟨a, xs, ex, hq, q⟩ := q1
  subst ex
  cases r1 with
  | cons r rr =>
    cases rr
    cases r
    obtain ⟨its, rv, p', hz⟩ := I1.tuple hq
    refine enum_begins1 (begins_tuple a its.toArray) p' fun h' he hit hsz hk => wpAny_pyIter_enum he ?_
    have I2 : Inv X pins σ H1 { s1 with heap := h' } := I1.kept (t' := s1.toks) hk
    refine ⟨s1.heap.objs.size + 1, [s1.heap.objs.size + 1, s1.heap.objs.size], _, _, H1, rfl, I2, turn_enumT a (s1.heap.objs.size + 1) s1.heap.objs.size, ⟨⟨.none, he⟩, ⟨_, hit, rfl, rfl⟩, Nat.succ_ne_self _⟩, fun b hb => ?_, q⟩
    have e' : b = s1.heap.objs.size + 1 ∨ b = s1.heap.objs.size := by simpa using hb
    have hle : s1.heap.objs.size ≤ b := by
      rcases e' with z | z
      · rw [z]; exact Nat.le_add_right _ _
      · rw [z]; exact Nat.le_refl _
    exact I1.fpOk hle (I1.hok.fresh hle)
end L2

set_option Elab.async false
set_option linter.all false
set_option maxRecDepth 100000
namespace L2
open PySem PySem.Spec PyProof.Rows StX
def tCallR (sp : Sp) (t : TA) : TE := fun σ H Q => t σ H fun vs H1 => sp vs H1 Q E0
section
variable {X : Cx} {k : Nat} {f C : Addr} {sp : Sp} {x m : Str} {e o : Expr} {es : List Expr} {te ta : TE} {t : TA} {p sp_ pos apos : Pos}
theorem pe_callR (F : FnR X.prog X.w X.K X.mg X.base CX0 k f sp) (hr : Room k X.A) (hg : Gl X x) (hm : X.mg x = some (.ref f)) (hk : PySem.W.keepIn X.K (.ref f) = true)
    (ha : PA X (e :: es) t) (hdb : (x == ("__debug__" : Str)) = false := by decide) (he : starEach (e :: es) X.env = (false, eval e X.env) :: starEach es X.env := by rfl) (hpl : (backTo pos (starEach es X.env)).any (·.1) = false := by rfl) :
    PE X (.Call (.Name x p) (e :: es) [] pos) (tCallR sp t) := by
  refine ⟨fun pins s σ H Q I h => ?_⟩
  refine wpAny_Call_Name_kw (ld_glob I hg hm ?_ hdb)
  refine PySem.W.callWith_K (h₀ := X.base) I.ok.mod.kin hk (thn (ha.run pos pins s σ H _ I h) fun us s1 ⟨vs, H1, I1, r, q⟩ => ⟨I1.kIn, ?_⟩) he hpl
  exact wpAny_call (run_fnR F hr pass0 I1 r q)
theorem pe_mthR {pl : Sem Bool} (he : PE X o ta) (c : Cls X.K C) (hm : Meth X.K C m f)
    (F : FnR X.prog X.w X.K X.mg X.base CX0 k f sp) (hr : Room k X.A) (ha : PA X (e :: es) t)
    (hst : starEach (e :: es) X.env = (false, eval e X.env) :: starEach es X.env := by rfl) (hpl : (backTo pos (starEach es X.env)).any (·.1) = false := by rfl)
    (ht : eval (.Call (.Attribute o m apos) (e :: es) [] pos) X.env = (do
      let ov ← eval o X.env
      standAt apos.atName
      let (f, first) ← holding [ov] (getMethod ov m pl)
      callWith pos f first (backTo pos (starEach (e :: es) X.env)) (backToKw pos (keywordEach [] X.env))) := by rfl) :
    PE X (.Call (.Attribute o m apos) (e :: es) [] pos) (tMethR C m sp E0 ta t) := pe_methR he c hm F hr pass0 ha hst hpl ht
theorem pe_mth0R {pl : Sem Bool} (he : PE X o ta) (c : Cls X.K C) (hm : Meth X.K C m f) (F : FnR X.prog X.w X.K X.mg X.base CX0 k f sp) (hr : Room k X.A)
    (ht : eval (.Call (.Attribute o m apos) [] [] pos) X.env = (do
      let ov ← eval o X.env
      standAt apos.atName
      let (f, first) ← holding [ov] (getMethod ov m pl)
      callWith pos f first (backTo pos (starEach [] X.env)) (backToKw pos (keywordEach [] X.env))) := by rfl) :
    PE X (.Call (.Attribute o m apos) [] [] pos) (tMethR C m sp E0 ta tNil) := by
  refine ⟨fun pins s σ H Q I h => ?_⟩
  refine PySem.W.methodCall_KW (pl := pl) (thn (he.run pins s σ H _ I h) fun u s1 ⟨x, H1, I1, rx, a, dx, fs, ex, ea, l, q⟩ => ?_) ht
  subst ex
  obtain rfl : u = Value.ref a := rx
  refine getmeth_ok I1 ea c hm l ?_
  exact PySem.W.callWith_K0 (first := [.ref a]) I1.kIn hm.kp (wpAny_call (run_fnR (us := [.ref a]) (vs := [.ref a]) F hr pass0 I1 (.cons rfl .nil) q))
theorem pe_mkR (M : Mk X.K C f) (F : FnR X.prog X.w X.K X.mg X.base CX0 k f sp) (hr : Room (k + 1) X.A) (hg : Gl X x) (hm : X.mg x = some (.ref C)) (ha : PA X (e :: es) t) (hdb : (x == ("__debug__" : Str)) = false := by decide)
    (he : starEach (e :: es) X.env = (false, eval e X.env) :: starEach es X.env := by rfl) (hpl : (backTo pos (starEach es X.env)).any (·.1) = false := by rfl) : PE X (.Call (.Name x p) (e :: es) [] pos) (tMakeR C sp E0 t) :=
  pe_makeR M F hr hg hm pass0 ha hdb he hpl
def tMakeS (K : PySem.W.Frag) (C : Addr) (sp : Sp) (te : TE) : TE := fun σ H Q => te σ H fun y H1 => ∃ a xs, y = V.ref a ∧ SqT K H1 a xs ∧ ∀ x dx, H1 x = Option.none → H1 dx = Option.none → dx ≠ x →
  sp (V.ref x :: xs) (upd (upd H1 dx (.own x)) x (.ins C dx [])) (fun v H2 => v = .non ∧ Q (.ref x) H2) E0
theorem pe_mkS (M : Mk X.K C f) (F : FnR X.prog X.w X.K X.mg X.base CX0 k f sp) (hr : Room (k + 1) X.A) (hg : Gl X x) (hm : X.mg x = some (.ref C)) (he : PE X e te) (hd : (x == ("__debug__" : Str)) = false := by decide)
    (hst : starEach [.Starred e sp_] X.env = [(true, eval e X.env)] := by rfl) : PE X (.Call (.Name x p) [.Starred e sp_] [] pos) (tMakeS X.K C sp te) := by
  refine ⟨fun pins s σ H Q I h => ?_⟩
  refine wpAny_Call_Name_kw (ld_glob I hg hm ?_ hd)
  refine PySem.W.callWith_S (h₀ := X.base) I.ok.mod.kin M.kp (thn (he.run pins s σ H _ I h) fun v s1 ⟨y, H1, I1, ry, a, xs, ey, hxs, q⟩ => ?_) hst
  subst ey
  obtain rfl : v = Value.ref a := ry
  exact star_any I1 (.inl hxs) fun us s2 I2 rv => ⟨I2.kIn, run_makeR M F hr pass0 I2 rv q⟩
end
section
variable {P : Program} {w : World} {K : PySem.W.Frag} {mg : Str → Option Value} {base : Heap} {x qual : Str} {params : Arguments} {body : List Stmt} {scope : Scope} {f : Addr} {fd : FuncData}
theorem FunD.r {N ps : List Str} {k : Nat} {sp : Sp} (F : FunD K x qual params body scope [] [] f fd) (S : FnScope N ps scope)
    (hb : ∀ (kV doc pm : Value) (an : Option Addr) (cdv ct : Value) (us : List Value), us.length = ps.length → bindArgs (PySem.W.fnOf x qual params body scope .none kV doc pm an cdv ct) ⟨us, []⟩ = pure (ps.zip us))
    (len : ∀ vs H Q E, sp vs H Q E → vs.length = ps.length)
    (hbody : ∀ (cdv : Value) (A : Around) (outer : List Env) (s : Shared) (H : Hp) (vs : List V) (Q : VK) (E : XK), Room k (A.deeper (envOfC qual scope s.heap.objs.size f cdv)) → sp vs H Q E →
      ∃ t, PSs (cxOf CX0 P w K mg base N qual scope f cdv A outer s H E).nox body t ∧ t { nx := fun _ H' => Q .non H', rt := Q } (start N vs) H) : FnR P w K mg base CX0 (k + 1) f sp := by
  refine ((F.ok (CX := CX0) S len (fun cdv A outer s H vs Q E hr hs => ?_)).raw (F.bindsN hb) .nil).imp (fun vs H Q E h => by rw [List.append_nil]; exact h)
  obtain ⟨t, h1, h2⟩ := hbody cdv A outer s H vs Q E hr hs
  exact ⟨t, h1.nox, h2⟩
end
end L2

set_option Elab.async false
set_option linter.all false
set_option maxRecDepth 100000
namespace L2
open PySem PySem.Spec PyProof.Rows
theorem PE.imp {X : Cx} {e : Expr} {t t' : TE} (h : PE X e t) (i : ∀ σ H Q, t' σ H Q → t σ H Q) : PE X e t' := ⟨fun pins s σ H Q I hw => h.run pins s σ H Q I (i σ H Q hw)⟩
inductive TyN (K : PySem.W.Frag) (H : Hp) : V → String → Prop where
  | int (i : Int) : TyN K H (.int i) "int"
  | str (x : Str) : TyN K H (.str x) "str"
  | bl (b : Bool) : TyN K H (.bl b) "bool"
  | non : TyN K H .non "NoneType"
  | tup {a : Addr} {xs : List V} (h : SqT K H a xs) : TyN K H (.ref a) "tuple"
  | lst {a : Addr} {xs : List V} (h : SqL K H a xs) : TyN K H (.ref a) "list"
def subTy (n T : String) : Bool := n == T || (n == "bool" && T == "int")
theorem TyN.mem {K : PySem.W.Frag} {H : Hp} {x : V} {n : String} (t : TyN K H x n) : n ∈ ["int", "str", "bool", "NoneType", "tuple", "list"] := by cases t <;> decide
theorem TyN.tyX {K : PySem.W.Frag} {H : Hp} {x : V} {n : String} (t : TyN K H x n) : TyX K H x (.type n) := by
  cases t with
  | int i => exact .base (.int i)
  | str i => exact .base (.str i)
  | bl i => exact .base (.bl i)
  | non => exact .base .non
  | tup h =>
    rcases h with (h | ⟨o, h⟩) | ⟨o, its, n, hk, hc, _⟩
    · exact .base (.tup h)
    · exact .fTuple h
    · exact .kTuple hk hc
  | lst h =>
    rcases h with (h | ⟨o, h⟩) | ⟨o, its, n, hk, hc, _⟩
    · exact .base (.lst h)
    · exact .base (.frz h)
    · exact .kList hk hc
def tIsi (K : PySem.W.Frag) (T : String) (te : TE) : TE := fun σ H Q => te σ H fun x H1 => V.ty T = V.ty T ∧ ∃ n, TyN K H1 x n ∧ Q (.bl (subTy n T)) H1
theorem pe_isi {X : Cx} {T : Str} {n : String} {e : Expr} {te : TE} {p p2 pos : Pos} (hg : Gl X "isinstance") (hm : X.mg "isinstance" = none) (hg2 : Gl X T) (hm2 : X.mg T = none) (he : PE X e te)
    (hv : bootBuiltins T = some (.type n) := by decide +kernel) (hk : ∀ m ∈ ["int", "str", "bool", "NoneType", "tuple", "list"], kitB m n = some (subTy m n) := by decide +kernel) (hn : T ≠ "__name__" := by decide) (hd : (T == ("__debug__" : Str)) = false := by decide)
    (hs : starEach [e, .Name T p2] X.env = (false, eval e X.env) :: starEach [.Name T p2] X.env := by rfl)
    (hs2 : starEach [.Name T p2] X.env = (false, eval (.Name T p2) X.env) :: starEach [] X.env := by rfl) (hpl : (backTo pos (starEach [.Name T p2] X.env)).any (·.1) = false := by rfl) :
    PE X (.Call (.Name "isinstance" p) [e, .Name T p2] [] pos) (tIsi X.K n te) := by
  refine ⟨fun pins s σ H Q I h => ?_⟩
  have ha := pa_cons he (pa_cons (pe_bltn (v := .ty n) (pos := p2) hg2 hm2 hv rfl hn hd) pa_nil hs2) hs
  refine wpAny_Call_Name_kw (ld_blt (u := .builtin "isinstance") I hg hm (by decide +kernel) ?_)
  refine PyProof.Rows.callWith_builtin1 (thn (ha.run pos pins s σ H (fun vs H1 => match vs with
    | [x, c] => c = .ty n ∧ ∃ m, TyN X.K H1 x m ∧ Q (.bl (subTy m n)) H1
    | _ => False) I ?_) fun us s1 ⟨vs, H1, I1, r1, q1⟩ => ?_) hs hpl
  · exact h
  · match vs, r1, q1 with
    | [x, c], r1, q1 =>
      obtain ⟨rfl, m, ty, q⟩ := q1
      exact call_isi pins s1 σ H1 _ us Q I1 r1 ⟨x, .ty n, .type m, .type n, subTy m n, rfl, .ty n, ty.tyX, kit_ty (hk m ty.mem), q⟩
end L2

set_option Elab.async false
set_option linter.all false
set_option maxRecDepth 100000
set_option maxHeartbeats 2000000
namespace SB
open PySem PySem.Spec PyProof.Rows L2
def top (i : Nat) : Stmt := PySem.Challenge.pw_stealbeats_k28_written_and_read.main.body.getD i (.Pass ⟨0, 0, 0, 0⟩)
abbrev s_is_number : Stmt := top 16
abbrev s_is_part : Stmt := top 17
abbrev s_is_one_of : Stmt := top 18
abbrev s_is_row : Stmt := top 19
abbrev s_is_work : Stmt := top 20
abbrev s_is_ask : Stmt := top 21
abbrev s_check_program : Stmt := top 22
abbrev s_check_works : Stmt := top 23
abbrev s_check_memory : Stmt := top 24
abbrev s_check_asks : Stmt := top 25
abbrev s_check_hall : Stmt := top 26
abbrev s_part_text : Stmt := top 33
abbrev s_row_text : Stmt := top 34
abbrev s_written : Stmt := top 35
abbrev s_kind_of : Stmt := top 36
abbrev s_places_of : Stmt := top 37
abbrev s_is_number_text : Stmt := top 38
abbrev s_fits : Stmt := top 39
abbrev s_is_text_row : Stmt := top 40
abbrev s_kinds_of : Stmt := top 41
abbrev s_part_read : Stmt := top 42
abbrev s_read : Stmt := top 43
abbrev s_l_dice : Stmt := top 45
abbrev s_l_off : Stmt := top 46
abbrev s_l_alike : Stmt := top 47
abbrev s_l_words : Stmt := top 48
abbrev s_l_work : Stmt := top 49
abbrev s_l_works : Stmt := top 50
abbrev s_l_row : Stmt := top 51
abbrev s_l_program : Stmt := top 52
abbrev s_l_asked : Stmt := top 53
abbrev s_l_line : Stmt := top 54
abbrev s_law : Stmt := top 55
theorem sc_is_number : FnScope ["value", "low", "high"] ["value", "low", "high"] (defScope s_is_number) := ⟨rfl, rfl, rfl, by decide +kernel, rfl, by decide +kernel, by decide +kernel⟩
theorem sc_is_part : FnScope ["value", "kind", "low", "high"] ["value", "kind"] (defScope s_is_part) := ⟨rfl, rfl, rfl, by decide +kernel, rfl, by decide +kernel, by decide +kernel⟩
theorem sc_is_one_of : FnScope ["value", "many"] ["value", "many"] (defScope s_is_one_of) := ⟨rfl, rfl, rfl, by decide +kernel, rfl, by decide +kernel, by decide +kernel⟩
theorem sc_is_row : FnScope ["row", "row_count", "form", "value", "kind", "fits"] ["row", "row_count"] (defScope s_is_row) := ⟨rfl, rfl, rfl, by decide +kernel, rfl, by decide +kernel, by decide +kernel⟩
theorem sc_is_work : FnScope ["work", "work_count", "begin", "goal", "many", "block", "greed", "mark", "follow", "moves", "held"] ["work", "work_count"] (defScope s_is_work) := ⟨rfl, rfl, rfl, by decide +kernel, rfl, by decide +kernel, by decide +kernel⟩
theorem sc_is_ask : FnScope ["ask", "work_count", "earliest", "when", "work"] ["ask", "work_count", "earliest"] (defScope s_is_ask) := ⟨rfl, rfl, rfl, by decide +kernel, rfl, by decide +kernel, by decide +kernel⟩
theorem sc_check_program : FnScope ["program", "at", "row"] ["program"] (defScope s_check_program) := ⟨rfl, rfl, rfl, by decide +kernel, rfl, by decide +kernel, by decide +kernel⟩
theorem sc_check_works : FnScope ["works", "at", "work"] ["works"] (defScope s_check_works) := ⟨rfl, rfl, rfl, by decide +kernel, rfl, by decide +kernel, by decide +kernel⟩
theorem sc_check_memory : FnScope ["memory", "word"] ["memory"] (defScope s_check_memory) := ⟨rfl, rfl, rfl, by decide +kernel, rfl, by decide +kernel, by decide +kernel⟩
theorem sc_check_asks : FnScope ["asks", "works", "earliest", "at", "ask"] ["asks", "works"] (defScope s_check_asks) := ⟨rfl, rfl, rfl, by decide +kernel, rfl, by decide +kernel, by decide +kernel⟩
theorem sc_check_hall : FnScope ["program", "works", "memory", "asks"] ["program", "works", "memory", "asks"] (defScope s_check_hall) := ⟨rfl, rfl, rfl, by decide +kernel, rfl, by decide +kernel, by decide +kernel⟩
theorem sc_part_text : FnScope ["part"] ["part"] (defScope s_part_text) := ⟨rfl, rfl, rfl, by decide +kernel, rfl, by decide +kernel, by decide +kernel⟩
theorem sc_row_text : FnScope ["row", "part"] ["row"] (defScope s_row_text) := ⟨rfl, rfl, rfl, by decide +kernel, rfl, by decide +kernel, by decide +kernel⟩
theorem sc_written : FnScope ["program", "works", "memory", "asks", "rows", "work", "ask", "row"] ["program", "works", "memory", "asks"] (defScope s_written) := ⟨rfl, rfl, rfl, by decide +kernel, rfl, by decide +kernel, by decide +kernel⟩
theorem sc_kind_of : FnScope ["word"] ["word"] (defScope s_kind_of) := ⟨rfl, rfl, rfl, by decide +kernel, rfl, by decide +kernel, by decide +kernel⟩
theorem sc_places_of : FnScope ["kind", "parts", "many"] ["kind", "parts"] (defScope s_places_of) := ⟨rfl, rfl, rfl, by decide +kernel, rfl, by decide +kernel, by decide +kernel⟩
theorem sc_is_number_text : FnScope ["text", "sign"] ["text"] (defScope s_is_number_text) := ⟨rfl, rfl, rfl, by decide +kernel, rfl, by decide +kernel, by decide +kernel⟩
theorem sc_fits : FnScope ["text", "place"] ["text", "place"] (defScope s_fits) := ⟨rfl, rfl, rfl, by decide +kernel, rfl, by decide +kernel, by decide +kernel⟩
theorem sc_is_text_row : FnScope ["kind", "parts", "places", "text", "place"] ["kind", "parts"] (defScope s_is_text_row) := ⟨rfl, rfl, rfl, by decide +kernel, rfl, by decide +kernel, by decide +kernel⟩
theorem sc_kinds_of : FnScope ["rows", "kinds", "ahead", "at", "parts", "kind"] ["rows"] (defScope s_kinds_of) := ⟨rfl, rfl, rfl, by decide +kernel, rfl, by decide +kernel, by decide +kernel⟩
theorem sc_part_read : FnScope ["text"] ["text"] (defScope s_part_read) := ⟨rfl, rfl, rfl, by decide +kernel, rfl, by decide +kernel, by decide +kernel⟩
theorem sc_read : FnScope ["text", "rows", "found", "kind", "parts", "program", "works", "memory", "asks", "row", "part"] ["text"] (defScope s_read) := ⟨rfl, rfl, rfl, by decide +kernel, rfl, by decide +kernel, by decide +kernel⟩
theorem sc_l_dice : FnScope ["_law_script", "_law_k", "_law_found", "_law_cell"] ["_law_script", "_law_k"] (defScope s_l_dice) := ⟨rfl, rfl, rfl, by decide +kernel, rfl, by decide +kernel, by decide +kernel⟩
theorem sc_l_off : FnScope ["_law_d", "_law_most", "_law_at", "_law_cell"] ["_law_d", "_law_most"] (defScope s_l_off) := ⟨rfl, rfl, rfl, by decide +kernel, rfl, by decide +kernel, by decide +kernel⟩
theorem sc_l_alike : FnScope ["_law_found", "_law_due", "_law_k"] ["_law_found", "_law_due"] (defScope s_l_alike) := ⟨rfl, rfl, rfl, by decide +kernel, rfl, by decide +kernel, by decide +kernel⟩
theorem sc_l_words : FnScope ["_law_d", "_law_k"] ["_law_d"] (defScope s_l_words) := ⟨rfl, rfl, rfl, by decide +kernel, rfl, by decide +kernel, by decide +kernel⟩
theorem sc_l_work : FnScope ["_law_d", "_law_many", "_law_mark", "_law_follow", "_law_has_mark", "_law_has_next", "_law_size", "_law_greed", "_law_begin", "_law_goal", "_law_k"] ["_law_d", "_law_many"] (defScope s_l_work) := ⟨rfl, rfl, rfl, by decide +kernel, rfl, by decide +kernel, by decide +kernel⟩
theorem sc_l_works : FnScope ["_law_d", "_law_most", "_law_many", "_law_k"] ["_law_d", "_law_most"] (defScope s_l_works) := ⟨rfl, rfl, rfl, by decide +kernel, rfl, by decide +kernel, by decide +kernel⟩
theorem sc_l_row : FnScope ["_law_d", "_law_many", "_law_straight", "_law_words_here", "_law_word", "_law_r", "_law_s", "_law_address", "_law_some"] ["_law_d", "_law_many", "_law_straight"] (defScope s_l_row) := ⟨rfl, rfl, rfl, by decide +kernel, rfl, by decide +kernel, by decide +kernel⟩
theorem sc_l_program : FnScope ["_law_d", "_law_straight", "_law_many", "_law_k"] ["_law_d", "_law_straight"] (defScope s_l_program) := ⟨rfl, rfl, rfl, by decide +kernel, rfl, by decide +kernel, by decide +kernel⟩
theorem sc_l_asked : FnScope ["_law_d", "_law_many", "_law_beats", "_law_k", "_law_beat"] ["_law_d", "_law_many"] (defScope s_l_asked) := ⟨rfl, rfl, rfl, by decide +kernel, rfl, by decide +kernel, by decide +kernel⟩
theorem sc_l_line : FnScope ["_law_parts", "_law_part"] ["_law_parts"] (defScope s_l_line) := ⟨rfl, rfl, rfl, by decide +kernel, rfl, by decide +kernel, by decide +kernel⟩
theorem sc_law : FnScope ["_law_script", "_law_d", "_law_turn", "_law_program_here", "_law_memory", "_law_works_here", "_law_asks", "_law_lines", "_law_handed", "_law_text", "_law_again", "_law_found", "_law_part", "_law_work_here", "_law_row_here", "_law_ask"] ["_law_script"] (defScope s_law) := ⟨rfl, rfl, rfl, by decide +kernel, rfl, by decide +kernel, by decide +kernel⟩
def Ent (K : PySem.W.Frag) (g k : Str) (vs : List V) : Prop := ∃ p, PySem.W.nsIn K (He.ga K g) k = some (some (.ref p)) ∧ ∀ H, SqT K H p vs
def entB (K : PySem.W.Frag) (g k : Str) (vs : List V) : Bool := match PySem.W.nsIn K (He.ga K g) k with
  | some (some (.ref p)) => (match K.lookup p with
    | some ⟨.type c, _, .seq its _, _⟩ => decide (c = "tuple") && (decide (its.size ≤ sizeLine) && He.relAll vs its.toList)
    | _ => false)
  | _ => false
theorem entB_ok {K : PySem.W.Frag} {g k : Str} {vs : List V} (h : entB K g k vs = true) : Ent K g k vs := by
  unfold entB at h
  cases q : PySem.W.nsIn K (He.ga K g) k with
  | none => rw [q] at h; cases h
  | some r =>
    rw [q] at h
    cases r with
    | none => cases h
    | some u =>
      cases u with
      | ref p =>
        refine ⟨p, q, fun H => ?_⟩
        have h2 : (match K.lookup p with
          | some ⟨.type c, _, .seq its _, _⟩ => decide (c = "tuple") && (decide (its.size ≤ sizeLine) && He.relAll vs its.toList)
          | _ => false) = true := h
        cases q2 : K.lookup p with
        | none => rw [q2] at h2; cases h2
        | some o =>
          obtain ⟨oc, od, dt, osl⟩ := o
          rw [q2] at h2
          cases oc with
          | type c =>
            cases dt with
            | seq its n =>
              obtain ⟨h3, h4⟩ := He.ba h2
              obtain ⟨h5, h6⟩ := He.ba h4
              exact .inr ⟨_, its, n, q2, congrArg Value.type (of_decide_eq_true h3), rfl, of_decide_eq_true h5, He.relAll_ok h6⟩
            | _ => cases h2
          | _ => cases dt <;> cases h2
      | _ => cases h
structure T (w : World) (K : PySem.W.Frag) (mg : Str → Option Value) : Prop where
  g_is_number : mg "is_number" = some (.ref (He.ga K "is_number"))
  g_is_part : mg "is_part" = some (.ref (He.ga K "is_part"))
  g_is_one_of : mg "is_one_of" = some (.ref (He.ga K "is_one_of"))
  g_is_row : mg "is_row" = some (.ref (He.ga K "is_row"))
  g_is_work : mg "is_work" = some (.ref (He.ga K "is_work"))
  g_is_ask : mg "is_ask" = some (.ref (He.ga K "is_ask"))
  g_check_program : mg "check_program" = some (.ref (He.ga K "check_program"))
  g_check_works : mg "check_works" = some (.ref (He.ga K "check_works"))
  g_check_memory : mg "check_memory" = some (.ref (He.ga K "check_memory"))
  g_check_asks : mg "check_asks" = some (.ref (He.ga K "check_asks"))
  g_check_hall : mg "check_hall" = some (.ref (He.ga K "check_hall"))
  g_part_text : mg "part_text" = some (.ref (He.ga K "part_text"))
  g_row_text : mg "row_text" = some (.ref (He.ga K "row_text"))
  g_written : mg "written" = some (.ref (He.ga K "written"))
  g_kind_of : mg "kind_of" = some (.ref (He.ga K "kind_of"))
  g_places_of : mg "places_of" = some (.ref (He.ga K "places_of"))
  g_is_number_text : mg "is_number_text" = some (.ref (He.ga K "is_number_text"))
  g_fits : mg "fits" = some (.ref (He.ga K "fits"))
  g_is_text_row : mg "is_text_row" = some (.ref (He.ga K "is_text_row"))
  g_kinds_of : mg "kinds_of" = some (.ref (He.ga K "kinds_of"))
  g_part_read : mg "part_read" = some (.ref (He.ga K "part_read"))
  g_read : mg "read" = some (.ref (He.ga K "read"))
  g_l_dice : mg "_law_dice" = some (.ref (He.ga K "_law_dice"))
  g_l_off : mg "_law_off" = some (.ref (He.ga K "_law_off"))
  g_l_alike : mg "_law_alike" = some (.ref (He.ga K "_law_alike"))
  g_l_words : mg "_law_words" = some (.ref (He.ga K "_law_words"))
  g_l_work : mg "_law_work" = some (.ref (He.ga K "_law_work"))
  g_l_works : mg "_law_works" = some (.ref (He.ga K "_law_works"))
  g_l_row : mg "_law_row" = some (.ref (He.ga K "_law_row"))
  g_l_program : mg "_law_program" = some (.ref (He.ga K "_law_program"))
  g_l_asked : mg "_law_asked" = some (.ref (He.ga K "_law_asked"))
  g_l_line : mg "_law_line" = some (.ref (He.ga K "_law_line"))
  g_law : mg "law" = some (.ref (He.ga K "law"))
  u_abs : mg "abs" = none
  u_all : mg "all" = none
  u_bool : mg "bool" = none
  u_enumerate : mg "enumerate" = none
  u_int : mg "int" = none
  u_isinstance : mg "isinstance" = none
  u_len : mg "len" = none
  u_list : mg "list" = none
  u_max : mg "max" = none
  u_range : mg "range" = none
  u_sorted : mg "sorted" = none
  u_str : mg "str" = none
  u_tuple : mg "tuple" = none
  u_zip : mg "zip" = none
  i_FIGURES : ∃ t, mg "FIGURES" = some (.str "0123456789" t)
  i_NOTHING : ∃ t, mg "NOTHING" = some (.str "-" t)
  i_FEWEST_WORDS : ∃ t, mg "FEWEST_WORDS" = some (.int 4 t)
  i_MOST_WORDS : ∃ t, mg "MOST_WORDS" = some (.int 32 t)
  i_MOST_ROWS : ∃ t, mg "MOST_ROWS" = some (.int 40 t)
  i_MOST_WORKS : ∃ t, mg "MOST_WORKS" = some (.int 6 t)
  i_MOST_ASKS : ∃ t, mg "MOST_ASKS" = some (.int 8 t)
  i_MOST_FIGURES : ∃ t, mg "MOST_FIGURES" = some (.int 3 t)
  g_GREEDS : mg "GREEDS" = some (.ref (He.ga K "GREEDS"))
  g_WORK_PLACES : mg "WORK_PLACES" = some (.ref (He.ga K "WORK_PLACES"))
  g_FORMS : mg "FORMS" = some (.ref (He.ga K "FORMS"))
  g_BOUNDS : mg "BOUNDS" = some (.ref (He.ga K "BOUNDS"))
  g_FOLLOWERS : mg "FOLLOWERS" = some (.ref (He.ga K "FOLLOWERS"))
  f_is_number : ∃ fd, FunD K "is_number" "is_number" (defArgs s_is_number) (defBody s_is_number) (defScope s_is_number) [] [] (He.ga K "is_number") fd
  f_is_part : ∃ fd, FunD K "is_part" "is_part" (defArgs s_is_part) (defBody s_is_part) (defScope s_is_part) [] [] (He.ga K "is_part") fd
  f_is_one_of : ∃ fd, FunD K "is_one_of" "is_one_of" (defArgs s_is_one_of) (defBody s_is_one_of) (defScope s_is_one_of) [] [] (He.ga K "is_one_of") fd
  f_is_row : ∃ fd, FunD K "is_row" "is_row" (defArgs s_is_row) (defBody s_is_row) (defScope s_is_row) [] [] (He.ga K "is_row") fd
  f_is_work : ∃ fd, FunD K "is_work" "is_work" (defArgs s_is_work) (defBody s_is_work) (defScope s_is_work) [] [] (He.ga K "is_work") fd
  f_is_ask : ∃ fd, FunD K "is_ask" "is_ask" (defArgs s_is_ask) (defBody s_is_ask) (defScope s_is_ask) [] [] (He.ga K "is_ask") fd
  f_check_program : ∃ fd, FunD K "check_program" "check_program" (defArgs s_check_program) (defBody s_check_program) (defScope s_check_program) [] [] (He.ga K "check_program") fd
  f_check_works : ∃ fd, FunD K "check_works" "check_works" (defArgs s_check_works) (defBody s_check_works) (defScope s_check_works) [] [] (He.ga K "check_works") fd
  f_check_memory : ∃ fd, FunD K "check_memory" "check_memory" (defArgs s_check_memory) (defBody s_check_memory) (defScope s_check_memory) [] [] (He.ga K "check_memory") fd
  f_check_asks : ∃ fd, FunD K "check_asks" "check_asks" (defArgs s_check_asks) (defBody s_check_asks) (defScope s_check_asks) [] [] (He.ga K "check_asks") fd
  f_check_hall : ∃ fd, FunD K "check_hall" "check_hall" (defArgs s_check_hall) (defBody s_check_hall) (defScope s_check_hall) [] [] (He.ga K "check_hall") fd
  f_part_text : ∃ fd, FunD K "part_text" "part_text" (defArgs s_part_text) (defBody s_part_text) (defScope s_part_text) [] [] (He.ga K "part_text") fd
  f_row_text : ∃ fd, FunD K "row_text" "row_text" (defArgs s_row_text) (defBody s_row_text) (defScope s_row_text) [] [] (He.ga K "row_text") fd
  f_written : ∃ fd, FunD K "written" "written" (defArgs s_written) (defBody s_written) (defScope s_written) [] [] (He.ga K "written") fd
  f_kind_of : ∃ fd, FunD K "kind_of" "kind_of" (defArgs s_kind_of) (defBody s_kind_of) (defScope s_kind_of) [] [] (He.ga K "kind_of") fd
  f_places_of : ∃ fd, FunD K "places_of" "places_of" (defArgs s_places_of) (defBody s_places_of) (defScope s_places_of) [] [] (He.ga K "places_of") fd
  f_is_number_text : ∃ fd, FunD K "is_number_text" "is_number_text" (defArgs s_is_number_text) (defBody s_is_number_text) (defScope s_is_number_text) [] [] (He.ga K "is_number_text") fd
  f_fits : ∃ fd, FunD K "fits" "fits" (defArgs s_fits) (defBody s_fits) (defScope s_fits) [] [] (He.ga K "fits") fd
  f_is_text_row : ∃ fd, FunD K "is_text_row" "is_text_row" (defArgs s_is_text_row) (defBody s_is_text_row) (defScope s_is_text_row) [] [] (He.ga K "is_text_row") fd
  f_kinds_of : ∃ fd, FunD K "kinds_of" "kinds_of" (defArgs s_kinds_of) (defBody s_kinds_of) (defScope s_kinds_of) [] [] (He.ga K "kinds_of") fd
  f_part_read : ∃ fd, FunD K "part_read" "part_read" (defArgs s_part_read) (defBody s_part_read) (defScope s_part_read) [] [] (He.ga K "part_read") fd
  f_read : ∃ fd, FunD K "read" "read" (defArgs s_read) (defBody s_read) (defScope s_read) [] [] (He.ga K "read") fd
  f_l_dice : ∃ fd, FunD K "_law_dice" "_law_dice" (defArgs s_l_dice) (defBody s_l_dice) (defScope s_l_dice) [] [] (He.ga K "_law_dice") fd
  f_l_off : ∃ fd, FunD K "_law_off" "_law_off" (defArgs s_l_off) (defBody s_l_off) (defScope s_l_off) [] [] (He.ga K "_law_off") fd
  f_l_alike : ∃ fd, FunD K "_law_alike" "_law_alike" (defArgs s_l_alike) (defBody s_l_alike) (defScope s_l_alike) [] [] (He.ga K "_law_alike") fd
  f_l_words : ∃ fd, FunD K "_law_words" "_law_words" (defArgs s_l_words) (defBody s_l_words) (defScope s_l_words) [] [] (He.ga K "_law_words") fd
  f_l_work : ∃ fd, FunD K "_law_work" "_law_work" (defArgs s_l_work) (defBody s_l_work) (defScope s_l_work) [] [] (He.ga K "_law_work") fd
  f_l_works : ∃ fd, FunD K "_law_works" "_law_works" (defArgs s_l_works) (defBody s_l_works) (defScope s_l_works) [] [] (He.ga K "_law_works") fd
  f_l_row : ∃ fd, FunD K "_law_row" "_law_row" (defArgs s_l_row) (defBody s_l_row) (defScope s_l_row) [] [] (He.ga K "_law_row") fd
  f_l_program : ∃ fd, FunD K "_law_program" "_law_program" (defArgs s_l_program) (defBody s_l_program) (defScope s_l_program) [] [] (He.ga K "_law_program") fd
  f_l_asked : ∃ fd, FunD K "_law_asked" "_law_asked" (defArgs s_l_asked) (defBody s_l_asked) (defScope s_l_asked) [] [] (He.ga K "_law_asked") fd
  f_l_line : ∃ fd, FunD K "_law_line" "_law_line" (defArgs s_l_line) (defBody s_l_line) (defScope s_l_line) [] [] (He.ga K "_law_line") fd
  f_law : ∃ fd, FunD K "law" "law" (defArgs s_law) (defBody s_law) (defScope s_law) [] [] (He.ga K "law") fd
  d_FORMS : ∃ es n, KDict K w (He.ga K "FORMS") es n
  d_BOUNDS : ∃ es n, KDict K w (He.ga K "BOUNDS") es n
  d_FOLLOWERS : ∃ es n, KDict K w (He.ga K "FOLLOWERS") es n
  tt_GREEDS : ∀ H, SqT K H (He.ga K "GREEDS") [.str "all", .str "turn", .str "idle"]
  tt_WORK_PLACES : ∀ H, SqT K H (He.ga K "WORK_PLACES") [.str "number", .str "number", .str "number", .str "number", .str "greed", .str "choice", .str "choice"]
  e_FORMS_set : Ent K "FORMS" "set" [.str "cell", .str "word"]
  e_FORMS_add : Ent K "FORMS" "add" [.str "cell", .str "cell"]
  e_FORMS_less : Ent K "FORMS" "less" [.str "cell", .str "cell"]
  e_FORMS_get : Ent K "FORMS" "get" [.str "cell", .str "address"]
  e_FORMS_put : Ent K "FORMS" "put" [.str "address", .str "cell"]
  e_FORMS_getx : Ent K "FORMS" "getx" [.str "cell", .str "cell"]
  e_FORMS_putx : Ent K "FORMS" "putx" [.str "cell", .str "cell"]
  e_FORMS_pair : Ent K "FORMS" "pair" [.str "first", .str "address"]
  e_FORMS_lay : Ent K "FORMS" "lay" [.str "address", .str "first"]
  e_FORMS_go : Ent K "FORMS" "go" [.str "row"]
  e_FORMS_if : Ent K "FORMS" "if" [.str "cell", .str "row"]
  e_FORMS_ask : Ent K "FORMS" "ask" [.str "work"]
  e_FORMS_done : Ent K "FORMS" "done" [.str "cell", .str "work"]
  e_FORMS_mark : Ent K "FORMS" "mark" [.str "mark"]
  e_FORMS_clear : Ent K "FORMS" "clear" [.str "mark"]
  e_FORMS_rest : Ent K "FORMS" "rest" [.str "rest"]
  e_FORMS_end : Ent K "FORMS" "end" []
  e_BOUNDS_cell : Ent K "BOUNDS" "cell" [.int 0, .int 3]
  e_BOUNDS_first : Ent K "BOUNDS" "first" [.int 0, .int 2]
  e_BOUNDS_word : Ent K "BOUNDS" "word" [.int 0, .int 999]
  e_BOUNDS_address : Ent K "BOUNDS" "address" [.int 0, .int 31]
  e_BOUNDS_work : Ent K "BOUNDS" "work" [.int 0, .int 5]
  e_BOUNDS_mark : Ent K "BOUNDS" "mark" [.int 0, .int 2]
  e_BOUNDS_rest : Ent K "BOUNDS" "rest" [.int 1, .int 9]
  e_BOUNDS_many : Ent K "BOUNDS" "many" [.int 1, .int 16]
  e_BOUNDS_block : Ent K "BOUNDS" "block" [.int 1, .int 4]
  e_BOUNDS_ask : Ent K "BOUNDS" "ask" [.int 0, .int 200]
  e_FOLLOWERS_ : Ent K "FOLLOWERS" "" [.str "words"]
  e_FOLLOWERS_words : Ent K "FOLLOWERS" "words" [.str "work", .str "row"]
  e_FOLLOWERS_work : Ent K "FOLLOWERS" "work" [.str "work", .str "row"]
  e_FOLLOWERS_row : Ent K "FOLLOWERS" "row" [.str "row", .str "at"]
  e_FOLLOWERS_at : Ent K "FOLLOWERS" "at" [.str "at"]
  k_is_number : PySem.W.keepIn K (.ref (He.ga K "is_number")) = true
  k_is_part : PySem.W.keepIn K (.ref (He.ga K "is_part")) = true
  k_is_one_of : PySem.W.keepIn K (.ref (He.ga K "is_one_of")) = true
  k_is_row : PySem.W.keepIn K (.ref (He.ga K "is_row")) = true
  k_is_work : PySem.W.keepIn K (.ref (He.ga K "is_work")) = true
  k_is_ask : PySem.W.keepIn K (.ref (He.ga K "is_ask")) = true
  k_check_program : PySem.W.keepIn K (.ref (He.ga K "check_program")) = true
  k_check_works : PySem.W.keepIn K (.ref (He.ga K "check_works")) = true
  k_check_memory : PySem.W.keepIn K (.ref (He.ga K "check_memory")) = true
  k_check_asks : PySem.W.keepIn K (.ref (He.ga K "check_asks")) = true
  k_check_hall : PySem.W.keepIn K (.ref (He.ga K "check_hall")) = true
  k_part_text : PySem.W.keepIn K (.ref (He.ga K "part_text")) = true
  k_row_text : PySem.W.keepIn K (.ref (He.ga K "row_text")) = true
  k_written : PySem.W.keepIn K (.ref (He.ga K "written")) = true
  k_kind_of : PySem.W.keepIn K (.ref (He.ga K "kind_of")) = true
  k_places_of : PySem.W.keepIn K (.ref (He.ga K "places_of")) = true
  k_is_number_text : PySem.W.keepIn K (.ref (He.ga K "is_number_text")) = true
  k_fits : PySem.W.keepIn K (.ref (He.ga K "fits")) = true
  k_is_text_row : PySem.W.keepIn K (.ref (He.ga K "is_text_row")) = true
  k_kinds_of : PySem.W.keepIn K (.ref (He.ga K "kinds_of")) = true
  k_part_read : PySem.W.keepIn K (.ref (He.ga K "part_read")) = true
  k_read : PySem.W.keepIn K (.ref (He.ga K "read")) = true
  k_l_dice : PySem.W.keepIn K (.ref (He.ga K "_law_dice")) = true
  k_l_off : PySem.W.keepIn K (.ref (He.ga K "_law_off")) = true
  k_l_alike : PySem.W.keepIn K (.ref (He.ga K "_law_alike")) = true
  k_l_words : PySem.W.keepIn K (.ref (He.ga K "_law_words")) = true
  k_l_work : PySem.W.keepIn K (.ref (He.ga K "_law_work")) = true
  k_l_works : PySem.W.keepIn K (.ref (He.ga K "_law_works")) = true
  k_l_row : PySem.W.keepIn K (.ref (He.ga K "_law_row")) = true
  k_l_program : PySem.W.keepIn K (.ref (He.ga K "_law_program")) = true
  k_l_asked : PySem.W.keepIn K (.ref (He.ga K "_law_asked")) = true
  k_l_line : PySem.W.keepIn K (.ref (He.ga K "_law_line")) = true
  k_law : PySem.W.keepIn K (.ref (He.ga K "law")) = true
end SB

set_option Elab.async false
set_option linter.all false
set_option maxRecDepth 100000
set_option maxHeartbeats 2000000
set_option maxHeartbeats 0
namespace SB
open PySem PySem.Spec PyProof.Rows L2
def d_is_number : He.DefD := ⟨("is_number", none), "is_number", "is_number", defArgs s_is_number, defBody s_is_number, defScope s_is_number, [], []⟩
def d_is_part : He.DefD := ⟨("is_part", none), "is_part", "is_part", defArgs s_is_part, defBody s_is_part, defScope s_is_part, [], []⟩
def d_is_one_of : He.DefD := ⟨("is_one_of", none), "is_one_of", "is_one_of", defArgs s_is_one_of, defBody s_is_one_of, defScope s_is_one_of, [], []⟩
def d_is_row : He.DefD := ⟨("is_row", none), "is_row", "is_row", defArgs s_is_row, defBody s_is_row, defScope s_is_row, [], []⟩
def d_is_work : He.DefD := ⟨("is_work", none), "is_work", "is_work", defArgs s_is_work, defBody s_is_work, defScope s_is_work, [], []⟩
def d_is_ask : He.DefD := ⟨("is_ask", none), "is_ask", "is_ask", defArgs s_is_ask, defBody s_is_ask, defScope s_is_ask, [], []⟩
def d_check_program : He.DefD := ⟨("check_program", none), "check_program", "check_program", defArgs s_check_program, defBody s_check_program, defScope s_check_program, [], []⟩
def d_check_works : He.DefD := ⟨("check_works", none), "check_works", "check_works", defArgs s_check_works, defBody s_check_works, defScope s_check_works, [], []⟩
def d_check_memory : He.DefD := ⟨("check_memory", none), "check_memory", "check_memory", defArgs s_check_memory, defBody s_check_memory, defScope s_check_memory, [], []⟩
def d_check_asks : He.DefD := ⟨("check_asks", none), "check_asks", "check_asks", defArgs s_check_asks, defBody s_check_asks, defScope s_check_asks, [], []⟩
def d_check_hall : He.DefD := ⟨("check_hall", none), "check_hall", "check_hall", defArgs s_check_hall, defBody s_check_hall, defScope s_check_hall, [], []⟩
def d_part_text : He.DefD := ⟨("part_text", none), "part_text", "part_text", defArgs s_part_text, defBody s_part_text, defScope s_part_text, [], []⟩
def d_row_text : He.DefD := ⟨("row_text", none), "row_text", "row_text", defArgs s_row_text, defBody s_row_text, defScope s_row_text, [], []⟩
def d_written : He.DefD := ⟨("written", none), "written", "written", defArgs s_written, defBody s_written, defScope s_written, [], []⟩
def d_kind_of : He.DefD := ⟨("kind_of", none), "kind_of", "kind_of", defArgs s_kind_of, defBody s_kind_of, defScope s_kind_of, [], []⟩
def d_places_of : He.DefD := ⟨("places_of", none), "places_of", "places_of", defArgs s_places_of, defBody s_places_of, defScope s_places_of, [], []⟩
def d_is_number_text : He.DefD := ⟨("is_number_text", none), "is_number_text", "is_number_text", defArgs s_is_number_text, defBody s_is_number_text, defScope s_is_number_text, [], []⟩
def d_fits : He.DefD := ⟨("fits", none), "fits", "fits", defArgs s_fits, defBody s_fits, defScope s_fits, [], []⟩
def d_is_text_row : He.DefD := ⟨("is_text_row", none), "is_text_row", "is_text_row", defArgs s_is_text_row, defBody s_is_text_row, defScope s_is_text_row, [], []⟩
def d_kinds_of : He.DefD := ⟨("kinds_of", none), "kinds_of", "kinds_of", defArgs s_kinds_of, defBody s_kinds_of, defScope s_kinds_of, [], []⟩
def d_part_read : He.DefD := ⟨("part_read", none), "part_read", "part_read", defArgs s_part_read, defBody s_part_read, defScope s_part_read, [], []⟩
def d_read : He.DefD := ⟨("read", none), "read", "read", defArgs s_read, defBody s_read, defScope s_read, [], []⟩
def d_l_dice : He.DefD := ⟨("_law_dice", none), "_law_dice", "_law_dice", defArgs s_l_dice, defBody s_l_dice, defScope s_l_dice, [], []⟩
def d_l_off : He.DefD := ⟨("_law_off", none), "_law_off", "_law_off", defArgs s_l_off, defBody s_l_off, defScope s_l_off, [], []⟩
def d_l_alike : He.DefD := ⟨("_law_alike", none), "_law_alike", "_law_alike", defArgs s_l_alike, defBody s_l_alike, defScope s_l_alike, [], []⟩
def d_l_words : He.DefD := ⟨("_law_words", none), "_law_words", "_law_words", defArgs s_l_words, defBody s_l_words, defScope s_l_words, [], []⟩
def d_l_work : He.DefD := ⟨("_law_work", none), "_law_work", "_law_work", defArgs s_l_work, defBody s_l_work, defScope s_l_work, [], []⟩
def d_l_works : He.DefD := ⟨("_law_works", none), "_law_works", "_law_works", defArgs s_l_works, defBody s_l_works, defScope s_l_works, [], []⟩
def d_l_row : He.DefD := ⟨("_law_row", none), "_law_row", "_law_row", defArgs s_l_row, defBody s_l_row, defScope s_l_row, [], []⟩
def d_l_program : He.DefD := ⟨("_law_program", none), "_law_program", "_law_program", defArgs s_l_program, defBody s_l_program, defScope s_l_program, [], []⟩
def d_l_asked : He.DefD := ⟨("_law_asked", none), "_law_asked", "_law_asked", defArgs s_l_asked, defBody s_l_asked, defScope s_l_asked, [], []⟩
def d_l_line : He.DefD := ⟨("_law_line", none), "_law_line", "_law_line", defArgs s_l_line, defBody s_l_line, defScope s_l_line, [], []⟩
def d_law : He.DefD := ⟨("law", none), "law", "law", defArgs s_law, defBody s_law, defScope s_law, [], []⟩
def fn : List He.DefD := ([d_is_number, d_is_part, d_is_one_of, d_is_row, d_is_work, d_is_ask, d_check_program, d_check_works, d_check_memory, d_check_asks] : List He.DefD) ++ ([d_check_hall, d_part_text, d_row_text, d_written, d_kind_of, d_places_of, d_is_number_text, d_fits, d_is_text_row, d_kinds_of] : List He.DefD) ++ ([d_part_read, d_read, d_l_dice, d_l_off, d_l_alike, d_l_words, d_l_work, d_l_works, d_l_row, d_l_program] : List He.DefD) ++ ([d_l_asked, d_l_line, d_law] : List He.DefD)
def fa : List He.Fa := ([.glo "is_number", .glo "is_part", .glo "is_one_of", .glo "is_row", .glo "is_work", .glo "is_ask", .glo "check_program", .glo "check_works", .glo "check_memory", .glo "check_asks"] : List He.Fa) ++ ([.glo "check_hall", .glo "part_text", .glo "row_text", .glo "written", .glo "kind_of", .glo "places_of", .glo "is_number_text", .glo "fits", .glo "is_text_row", .glo "kinds_of"] : List He.Fa) ++ ([.glo "part_read", .glo "read", .glo "_law_dice", .glo "_law_off", .glo "_law_alike", .glo "_law_words", .glo "_law_work", .glo "_law_works", .glo "_law_row", .glo "_law_program"] : List He.Fa) ++ ([.glo "_law_asked", .glo "_law_line", .glo "law", .free "abs", .free "all", .free "bool", .free "enumerate", .free "int", .free "isinstance", .free "len"] : List He.Fa) ++ ([.free "list", .free "max", .free "range", .free "sorted", .free "str", .free "tuple", .free "zip", .str "FIGURES" "0123456789", .str "NOTHING" "-", .int "FEWEST_WORDS" 4] : List He.Fa) ++ ([.int "MOST_WORDS" 32, .int "MOST_ROWS" 40, .int "MOST_WORKS" 6, .int "MOST_ASKS" 8, .int "MOST_FIGURES" 3, .glo "GREEDS", .glo "WORK_PLACES", .glo "FORMS", .glo "BOUNDS", .glo "FOLLOWERS"] : List He.Fa)
def tab_FORMS : He.Tab := (fun K => He.ga K "FORMS", ["set", "add", "less", "get", "put", "getx", "putx", "pair", "lay", "go", "if", "ask", "done", "mark", "clear", "rest", "end"])
def tab_BOUNDS : He.Tab := (fun K => He.ga K "BOUNDS", ["cell", "first", "word", "address", "work", "mark", "rest", "many", "block", "ask"])
def tab_FOLLOWERS : He.Tab := (fun K => He.ga K "FOLLOWERS", ["", "words", "work", "row", "at"])
def ts : List He.Tab := [tab_FORMS, tab_BOUNDS, tab_FOLLOWERS]
def exs : List (PySem.W.Frag → Bool) := ([(fun K => He.tupB K "GREEDS" [.str "all", .str "turn", .str "idle"]), (fun K => He.tupB K "WORK_PLACES" [.str "number", .str "number", .str "number", .str "number", .str "greed", .str "choice", .str "choice"]), (fun K => entB K "FORMS" "set" [.str "cell", .str "word"]), (fun K => entB K "FORMS" "add" [.str "cell", .str "cell"]), (fun K => entB K "FORMS" "less" [.str "cell", .str "cell"]), (fun K => entB K "FORMS" "get" [.str "cell", .str "address"]), (fun K => entB K "FORMS" "put" [.str "address", .str "cell"]), (fun K => entB K "FORMS" "getx" [.str "cell", .str "cell"])] : List (PySem.W.Frag → Bool)) ++ ([(fun K => entB K "FORMS" "putx" [.str "cell", .str "cell"]), (fun K => entB K "FORMS" "pair" [.str "first", .str "address"]), (fun K => entB K "FORMS" "lay" [.str "address", .str "first"]), (fun K => entB K "FORMS" "go" [.str "row"]), (fun K => entB K "FORMS" "if" [.str "cell", .str "row"]), (fun K => entB K "FORMS" "ask" [.str "work"]), (fun K => entB K "FORMS" "done" [.str "cell", .str "work"]), (fun K => entB K "FORMS" "mark" [.str "mark"])] : List (PySem.W.Frag → Bool)) ++ ([(fun K => entB K "FORMS" "clear" [.str "mark"]), (fun K => entB K "FORMS" "rest" [.str "rest"]), (fun K => entB K "FORMS" "end" []), (fun K => entB K "BOUNDS" "cell" [.int 0, .int 3]), (fun K => entB K "BOUNDS" "first" [.int 0, .int 2]), (fun K => entB K "BOUNDS" "word" [.int 0, .int 999]), (fun K => entB K "BOUNDS" "address" [.int 0, .int 31]), (fun K => entB K "BOUNDS" "work" [.int 0, .int 5])] : List (PySem.W.Frag → Bool)) ++ ([(fun K => entB K "BOUNDS" "mark" [.int 0, .int 2]), (fun K => entB K "BOUNDS" "rest" [.int 1, .int 9]), (fun K => entB K "BOUNDS" "many" [.int 1, .int 16]), (fun K => entB K "BOUNDS" "block" [.int 1, .int 4]), (fun K => entB K "BOUNDS" "ask" [.int 0, .int 200]), (fun K => entB K "FOLLOWERS" "" [.str "words"]), (fun K => entB K "FOLLOWERS" "words" [.str "work", .str "row"]), (fun K => entB K "FOLLOWERS" "work" [.str "work", .str "row"])] : List (PySem.W.Frag → Bool)) ++ ([(fun K => entB K "FOLLOWERS" "row" [.str "row", .str "at"]), (fun K => entB K "FOLLOWERS" "at" [.str "at"])] : List (PySem.W.Frag → Bool))
def ex (K : PySem.W.Frag) : Bool := exs.all fun b => b K
theorem exB_ok {K : PySem.W.Frag} (h : ex K = true) (i : Nat) {b : PySem.W.Frag → Bool} (e : exs[i]? = some b) : b K = true := List.all_eq_true.mp h b (List.mem_of_getElem? e)
abbrev R : PySem.W.OpenRow := PySem.W.OpenLaw.row PySem.Challenge.rw_stealbeats_k28_written_and_read
def tf : List He.Defn := []
abbrev hk : PySem.W.Hook := He.hookX 4 fa fn ts tf ex
def ob (s : PySem.W.SharedT) : He.AlX := He.obsX 4 fa fn ts tf ex (HandSHeadRun.getT s)
theorem ob_eq (s : PySem.W.SharedT) : ob s = hk.obs s.abs := He.obsX_eq (HandSHeadRun.getT_eq s)
def loose : List Str := (["BeatError", "BadMemory", "BadProgram", "BadWorks", "BadAsks", "BadText", "FORMS", "BOUNDS", "GREEDS", "FEWEST_WORDS", "MOST_WORDS", "MOST_ROWS"] : List Str) ++ (["MOST_WORKS", "MOST_ASKS", "is_number", "is_part", "is_one_of", "is_row", "is_work", "is_ask", "check_program", "check_works", "check_memory", "check_asks"] : List Str) ++ (["check_hall", "FIGURES", "MOST_FIGURES", "NOTHING", "FOLLOWERS", "WORK_PLACES", "part_text", "row_text", "written", "kind_of", "places_of", "is_number_text"] : List Str) ++ (["fits", "is_text_row", "kinds_of", "part_read", "read", "_law_dice", "_law_off", "_law_alike", "_law_words", "_law_work", "_law_works", "_law_row"] : List Str) ++ (["_law_program", "_law_asked", "_law_line"] : List Str)
theorem mkT {w : World} {K : PySem.W.Frag} {h : Heap} {mg : Str → Option Value} (X : K.In h) (G : h.Ns mainGlobals mg) (c : He.SaysX fa fn ts tf ex w h K) : T w K mg where
  g_is_number := He.glo_ok X G (c.t.d.fact 0 rfl)
  g_is_part := He.glo_ok X G (c.t.d.fact 1 rfl)
  g_is_one_of := He.glo_ok X G (c.t.d.fact 2 rfl)
  g_is_row := He.glo_ok X G (c.t.d.fact 3 rfl)
  g_is_work := He.glo_ok X G (c.t.d.fact 4 rfl)
  g_is_ask := He.glo_ok X G (c.t.d.fact 5 rfl)
  g_check_program := He.glo_ok X G (c.t.d.fact 6 rfl)
  g_check_works := He.glo_ok X G (c.t.d.fact 7 rfl)
  g_check_memory := He.glo_ok X G (c.t.d.fact 8 rfl)
  g_check_asks := He.glo_ok X G (c.t.d.fact 9 rfl)
  g_check_hall := He.glo_ok X G (c.t.d.fact 10 rfl)
  g_part_text := He.glo_ok X G (c.t.d.fact 11 rfl)
  g_row_text := He.glo_ok X G (c.t.d.fact 12 rfl)
  g_written := He.glo_ok X G (c.t.d.fact 13 rfl)
  g_kind_of := He.glo_ok X G (c.t.d.fact 14 rfl)
  g_places_of := He.glo_ok X G (c.t.d.fact 15 rfl)
  g_is_number_text := He.glo_ok X G (c.t.d.fact 16 rfl)
  g_fits := He.glo_ok X G (c.t.d.fact 17 rfl)
  g_is_text_row := He.glo_ok X G (c.t.d.fact 18 rfl)
  g_kinds_of := He.glo_ok X G (c.t.d.fact 19 rfl)
  g_part_read := He.glo_ok X G (c.t.d.fact 20 rfl)
  g_read := He.glo_ok X G (c.t.d.fact 21 rfl)
  g_l_dice := He.glo_ok X G (c.t.d.fact 22 rfl)
  g_l_off := He.glo_ok X G (c.t.d.fact 23 rfl)
  g_l_alike := He.glo_ok X G (c.t.d.fact 24 rfl)
  g_l_words := He.glo_ok X G (c.t.d.fact 25 rfl)
  g_l_work := He.glo_ok X G (c.t.d.fact 26 rfl)
  g_l_works := He.glo_ok X G (c.t.d.fact 27 rfl)
  g_l_row := He.glo_ok X G (c.t.d.fact 28 rfl)
  g_l_program := He.glo_ok X G (c.t.d.fact 29 rfl)
  g_l_asked := He.glo_ok X G (c.t.d.fact 30 rfl)
  g_l_line := He.glo_ok X G (c.t.d.fact 31 rfl)
  g_law := He.glo_ok X G (c.t.d.fact 32 rfl)
  u_abs := He.free_ok X G (c.t.d.fact 33 rfl)
  u_all := He.free_ok X G (c.t.d.fact 34 rfl)
  u_bool := He.free_ok X G (c.t.d.fact 35 rfl)
  u_enumerate := He.free_ok X G (c.t.d.fact 36 rfl)
  u_int := He.free_ok X G (c.t.d.fact 37 rfl)
  u_isinstance := He.free_ok X G (c.t.d.fact 38 rfl)
  u_len := He.free_ok X G (c.t.d.fact 39 rfl)
  u_list := He.free_ok X G (c.t.d.fact 40 rfl)
  u_max := He.free_ok X G (c.t.d.fact 41 rfl)
  u_range := He.free_ok X G (c.t.d.fact 42 rfl)
  u_sorted := He.free_ok X G (c.t.d.fact 43 rfl)
  u_str := He.free_ok X G (c.t.d.fact 44 rfl)
  u_tuple := He.free_ok X G (c.t.d.fact 45 rfl)
  u_zip := He.free_ok X G (c.t.d.fact 46 rfl)
  i_FIGURES := He.str_ok X G (c.t.d.fact 47 rfl)
  i_NOTHING := He.str_ok X G (c.t.d.fact 48 rfl)
  i_FEWEST_WORDS := He.int_ok X G (c.t.d.fact 49 rfl)
  i_MOST_WORDS := He.int_ok X G (c.t.d.fact 50 rfl)
  i_MOST_ROWS := He.int_ok X G (c.t.d.fact 51 rfl)
  i_MOST_WORKS := He.int_ok X G (c.t.d.fact 52 rfl)
  i_MOST_ASKS := He.int_ok X G (c.t.d.fact 53 rfl)
  i_MOST_FIGURES := He.int_ok X G (c.t.d.fact 54 rfl)
  g_GREEDS := He.glo_ok X G (c.t.d.fact 55 rfl)
  g_WORK_PLACES := He.glo_ok X G (c.t.d.fact 56 rfl)
  g_FORMS := He.glo_ok X G (c.t.d.fact 57 rfl)
  g_BOUNDS := He.glo_ok X G (c.t.d.fact 58 rfl)
  g_FOLLOWERS := He.glo_ok X G (c.t.d.fact 59 rfl)
  f_is_number := c.t.d.def_ 0 (d := d_is_number) rfl
  f_is_part := c.t.d.def_ 1 (d := d_is_part) rfl
  f_is_one_of := c.t.d.def_ 2 (d := d_is_one_of) rfl
  f_is_row := c.t.d.def_ 3 (d := d_is_row) rfl
  f_is_work := c.t.d.def_ 4 (d := d_is_work) rfl
  f_is_ask := c.t.d.def_ 5 (d := d_is_ask) rfl
  f_check_program := c.t.d.def_ 6 (d := d_check_program) rfl
  f_check_works := c.t.d.def_ 7 (d := d_check_works) rfl
  f_check_memory := c.t.d.def_ 8 (d := d_check_memory) rfl
  f_check_asks := c.t.d.def_ 9 (d := d_check_asks) rfl
  f_check_hall := c.t.d.def_ 10 (d := d_check_hall) rfl
  f_part_text := c.t.d.def_ 11 (d := d_part_text) rfl
  f_row_text := c.t.d.def_ 12 (d := d_row_text) rfl
  f_written := c.t.d.def_ 13 (d := d_written) rfl
  f_kind_of := c.t.d.def_ 14 (d := d_kind_of) rfl
  f_places_of := c.t.d.def_ 15 (d := d_places_of) rfl
  f_is_number_text := c.t.d.def_ 16 (d := d_is_number_text) rfl
  f_fits := c.t.d.def_ 17 (d := d_fits) rfl
  f_is_text_row := c.t.d.def_ 18 (d := d_is_text_row) rfl
  f_kinds_of := c.t.d.def_ 19 (d := d_kinds_of) rfl
  f_part_read := c.t.d.def_ 20 (d := d_part_read) rfl
  f_read := c.t.d.def_ 21 (d := d_read) rfl
  f_l_dice := c.t.d.def_ 22 (d := d_l_dice) rfl
  f_l_off := c.t.d.def_ 23 (d := d_l_off) rfl
  f_l_alike := c.t.d.def_ 24 (d := d_l_alike) rfl
  f_l_words := c.t.d.def_ 25 (d := d_l_words) rfl
  f_l_work := c.t.d.def_ 26 (d := d_l_work) rfl
  f_l_works := c.t.d.def_ 27 (d := d_l_works) rfl
  f_l_row := c.t.d.def_ 28 (d := d_l_row) rfl
  f_l_program := c.t.d.def_ 29 (d := d_l_program) rfl
  f_l_asked := c.t.d.def_ 30 (d := d_l_asked) rfl
  f_l_line := c.t.d.def_ 31 (d := d_l_line) rfl
  f_law := c.t.d.def_ 32 (d := d_law) rfl
  d_FORMS := c.t.tab 0 (t := tab_FORMS) rfl
  d_BOUNDS := c.t.tab 1 (t := tab_BOUNDS) rfl
  d_FOLLOWERS := c.t.tab 2 (t := tab_FOLLOWERS) rfl
  tt_GREEDS := fun H => He.tupB_ok (exB_ok c.more 0 rfl) H
  tt_WORK_PLACES := fun H => He.tupB_ok (exB_ok c.more 1 rfl) H
  e_FORMS_set := entB_ok (exB_ok c.more 2 rfl)
  e_FORMS_add := entB_ok (exB_ok c.more 3 rfl)
  e_FORMS_less := entB_ok (exB_ok c.more 4 rfl)
  e_FORMS_get := entB_ok (exB_ok c.more 5 rfl)
  e_FORMS_put := entB_ok (exB_ok c.more 6 rfl)
  e_FORMS_getx := entB_ok (exB_ok c.more 7 rfl)
  e_FORMS_putx := entB_ok (exB_ok c.more 8 rfl)
  e_FORMS_pair := entB_ok (exB_ok c.more 9 rfl)
  e_FORMS_lay := entB_ok (exB_ok c.more 10 rfl)
  e_FORMS_go := entB_ok (exB_ok c.more 11 rfl)
  e_FORMS_if := entB_ok (exB_ok c.more 12 rfl)
  e_FORMS_ask := entB_ok (exB_ok c.more 13 rfl)
  e_FORMS_done := entB_ok (exB_ok c.more 14 rfl)
  e_FORMS_mark := entB_ok (exB_ok c.more 15 rfl)
  e_FORMS_clear := entB_ok (exB_ok c.more 16 rfl)
  e_FORMS_rest := entB_ok (exB_ok c.more 17 rfl)
  e_FORMS_end := entB_ok (exB_ok c.more 18 rfl)
  e_BOUNDS_cell := entB_ok (exB_ok c.more 19 rfl)
  e_BOUNDS_first := entB_ok (exB_ok c.more 20 rfl)
  e_BOUNDS_word := entB_ok (exB_ok c.more 21 rfl)
  e_BOUNDS_address := entB_ok (exB_ok c.more 22 rfl)
  e_BOUNDS_work := entB_ok (exB_ok c.more 23 rfl)
  e_BOUNDS_mark := entB_ok (exB_ok c.more 24 rfl)
  e_BOUNDS_rest := entB_ok (exB_ok c.more 25 rfl)
  e_BOUNDS_many := entB_ok (exB_ok c.more 26 rfl)
  e_BOUNDS_block := entB_ok (exB_ok c.more 27 rfl)
  e_BOUNDS_ask := entB_ok (exB_ok c.more 28 rfl)
  e_FOLLOWERS_ := entB_ok (exB_ok c.more 29 rfl)
  e_FOLLOWERS_words := entB_ok (exB_ok c.more 30 rfl)
  e_FOLLOWERS_work := entB_ok (exB_ok c.more 31 rfl)
  e_FOLLOWERS_row := entB_ok (exB_ok c.more 32 rfl)
  e_FOLLOWERS_at := entB_ok (exB_ok c.more 33 rfl)
  k_is_number := (let ⟨_, F⟩ := c.t.d.def_ 0 (d := d_is_number) rfl; F.kp)
  k_is_part := (let ⟨_, F⟩ := c.t.d.def_ 1 (d := d_is_part) rfl; F.kp)
  k_is_one_of := (let ⟨_, F⟩ := c.t.d.def_ 2 (d := d_is_one_of) rfl; F.kp)
  k_is_row := (let ⟨_, F⟩ := c.t.d.def_ 3 (d := d_is_row) rfl; F.kp)
  k_is_work := (let ⟨_, F⟩ := c.t.d.def_ 4 (d := d_is_work) rfl; F.kp)
  k_is_ask := (let ⟨_, F⟩ := c.t.d.def_ 5 (d := d_is_ask) rfl; F.kp)
  k_check_program := (let ⟨_, F⟩ := c.t.d.def_ 6 (d := d_check_program) rfl; F.kp)
  k_check_works := (let ⟨_, F⟩ := c.t.d.def_ 7 (d := d_check_works) rfl; F.kp)
  k_check_memory := (let ⟨_, F⟩ := c.t.d.def_ 8 (d := d_check_memory) rfl; F.kp)
  k_check_asks := (let ⟨_, F⟩ := c.t.d.def_ 9 (d := d_check_asks) rfl; F.kp)
  k_check_hall := (let ⟨_, F⟩ := c.t.d.def_ 10 (d := d_check_hall) rfl; F.kp)
  k_part_text := (let ⟨_, F⟩ := c.t.d.def_ 11 (d := d_part_text) rfl; F.kp)
  k_row_text := (let ⟨_, F⟩ := c.t.d.def_ 12 (d := d_row_text) rfl; F.kp)
  k_written := (let ⟨_, F⟩ := c.t.d.def_ 13 (d := d_written) rfl; F.kp)
  k_kind_of := (let ⟨_, F⟩ := c.t.d.def_ 14 (d := d_kind_of) rfl; F.kp)
  k_places_of := (let ⟨_, F⟩ := c.t.d.def_ 15 (d := d_places_of) rfl; F.kp)
  k_is_number_text := (let ⟨_, F⟩ := c.t.d.def_ 16 (d := d_is_number_text) rfl; F.kp)
  k_fits := (let ⟨_, F⟩ := c.t.d.def_ 17 (d := d_fits) rfl; F.kp)
  k_is_text_row := (let ⟨_, F⟩ := c.t.d.def_ 18 (d := d_is_text_row) rfl; F.kp)
  k_kinds_of := (let ⟨_, F⟩ := c.t.d.def_ 19 (d := d_kinds_of) rfl; F.kp)
  k_part_read := (let ⟨_, F⟩ := c.t.d.def_ 20 (d := d_part_read) rfl; F.kp)
  k_read := (let ⟨_, F⟩ := c.t.d.def_ 21 (d := d_read) rfl; F.kp)
  k_l_dice := (let ⟨_, F⟩ := c.t.d.def_ 22 (d := d_l_dice) rfl; F.kp)
  k_l_off := (let ⟨_, F⟩ := c.t.d.def_ 23 (d := d_l_off) rfl; F.kp)
  k_l_alike := (let ⟨_, F⟩ := c.t.d.def_ 24 (d := d_l_alike) rfl; F.kp)
  k_l_words := (let ⟨_, F⟩ := c.t.d.def_ 25 (d := d_l_words) rfl; F.kp)
  k_l_work := (let ⟨_, F⟩ := c.t.d.def_ 26 (d := d_l_work) rfl; F.kp)
  k_l_works := (let ⟨_, F⟩ := c.t.d.def_ 27 (d := d_l_works) rfl; F.kp)
  k_l_row := (let ⟨_, F⟩ := c.t.d.def_ 28 (d := d_l_row) rfl; F.kp)
  k_l_program := (let ⟨_, F⟩ := c.t.d.def_ 29 (d := d_l_program) rfl; F.kp)
  k_l_asked := (let ⟨_, F⟩ := c.t.d.def_ 30 (d := d_l_asked) rfl; F.kp)
  k_l_line := (let ⟨_, F⟩ := c.t.d.def_ 31 (d := d_l_line) rfl; F.kp)
  k_law := (let ⟨_, F⟩ := c.t.d.def_ 32 (d := d_law) rfl; F.kp)
theorem run_false (w : World) : HandSHeadRun.RunEq R (PySem.W.view R.prog [55]) hk ob 6000 loose (w.withFollow "special-get-raises" false) := by
  intro os
  kernel_rfl
theorem run_true (w : World) : HandSHeadRun.RunEq R (PySem.W.view R.prog [55]) hk ob 6000 loose (w.withFollow "special-get-raises" true) := by
  intro os
  kernel_rfl
theorem run (w : World) : HandSHeadRun.RunEq R (PySem.W.view R.prog [55]) hk ob 6000 loose w := PySem.W.byRow2 "special-get-raises" (P := fun w => HandSHeadRun.RunEq R (PySem.W.view R.prog [55]) hk ob 6000 loose w) run_false run_true w
end SB

set_option Elab.async false
set_option linter.all false
set_option maxRecDepth 100000
set_option maxHeartbeats 2000000
namespace SB
open PySem PySem.Spec PyProof.Rows L2
def oV : Option Int → V
  | none => .non
  | some i => .int i
def oA : Option Addr → V
  | none => .non
  | some a => .ref a
structure Wk where
  begin : Int
  goal : Int
  many : Int
  block : Int
  greed : Str
  mark : Option Int
  follow : Option Int
  on : Bool
  laid : Int
  hand : Option Int
structure Wo where
  begin : Int
  goal : Int
  many : Int
  block : Int
  greed : Str
  mark : Option Int
  follow : Option Int
  going : Option Addr
def woF (k : Wo) : List (Str × V) := [("begin", .int k.begin), ("goal", .int k.goal), ("many", .int k.many), ("block", .int k.block), ("greed", .str k.greed), ("mark", oV k.mark), ("follow", oV k.follow), ("going", oA k.going)]
abbrev cWork (K : PySem.W.Frag) : Addr := He.ga K "Work"
theorem wo_begin (k : Wo) : (woF k).lookup ("begin" : Str) = some (V.int k.begin) := by kernel_rfl
theorem wo_put_begin (k : Wo) (x : Int) : putF ("begin" : Str) (V.int x) (woF k) = woF { k with begin := x } := by kernel_rfl
theorem wo_goal (k : Wo) : (woF k).lookup ("goal" : Str) = some (V.int k.goal) := by kernel_rfl
theorem wo_put_goal (k : Wo) (x : Int) : putF ("goal" : Str) (V.int x) (woF k) = woF { k with goal := x } := by kernel_rfl
theorem wo_many (k : Wo) : (woF k).lookup ("many" : Str) = some (V.int k.many) := by kernel_rfl
theorem wo_put_many (k : Wo) (x : Int) : putF ("many" : Str) (V.int x) (woF k) = woF { k with many := x } := by kernel_rfl
theorem wo_block (k : Wo) : (woF k).lookup ("block" : Str) = some (V.int k.block) := by kernel_rfl
theorem wo_put_block (k : Wo) (x : Int) : putF ("block" : Str) (V.int x) (woF k) = woF { k with block := x } := by kernel_rfl
theorem wo_greed (k : Wo) : (woF k).lookup ("greed" : Str) = some (V.str k.greed) := by kernel_rfl
theorem wo_put_greed (k : Wo) (x : Str) : putF ("greed" : Str) (V.str x) (woF k) = woF { k with greed := x } := by kernel_rfl
theorem wo_mark (k : Wo) : (woF k).lookup ("mark" : Str) = some (oV k.mark) := by kernel_rfl
theorem wo_put_mark (k : Wo) (x : Option Int) : putF ("mark" : Str) (oV x) (woF k) = woF { k with mark := x } := by kernel_rfl
theorem wo_follow (k : Wo) : (woF k).lookup ("follow" : Str) = some (oV k.follow) := by kernel_rfl
theorem wo_put_follow (k : Wo) (x : Option Int) : putF ("follow" : Str) (oV x) (woF k) = woF { k with follow := x } := by kernel_rfl
theorem wo_going (k : Wo) : (woF k).lookup ("going" : Str) = some (oA k.going) := by kernel_rfl
theorem wo_put_going (k : Wo) (x : Option Addr) : putF ("going" : Str) (oA x) (woF k) = woF { k with going := x } := by kernel_rfl
theorem wo_no_held_off (k : Wo) : (woF k).lookup ("held_off" : Str) = none := by kernel_rfl
theorem wo_no_may_take (k : Wo) : (woF k).lookup ("may_take" : Str) = none := by kernel_rfl
theorem wo_no_move (k : Wo) : (woF k).lookup ("move" : Str) = none := by kernel_rfl
theorem wo_no_fetch (k : Wo) : (woF k).lookup ("fetch" : Str) = none := by kernel_rfl
theorem wo_no_lay (k : Wo) : (woF k).lookup ("lay" : Str) = none := by kernel_rfl
theorem wo_len (k : Wo) : (woF k).length < 1000 := by show 8 < 1000; decide
theorem wo_put_goingN (k : Wo) : putF ("going" : Str) V.non (woF k) = woF { k with going := none } := by kernel_rfl
theorem wo_put_goingS (k : Wo) (x : Addr) : putF ("going" : Str) (V.ref x) (woF k) = woF { k with going := some x } := by kernel_rfl
theorem wo_made (begin : Int) (goal : Int) (many : Int) (block : Int) (greed : Str) (mark : Option Int) (follow : Option Int) (going : Option Addr) : putF ("going" : Str) (oA going) (putF ("follow" : Str) (oV follow) (putF ("mark" : Str) (oV mark) (putF ("greed" : Str) (V.str greed) (putF ("block" : Str) (V.int block) (putF ("many" : Str) (V.int many) (putF ("goal" : Str) (V.int goal) (putF ("begin" : Str) (V.int begin) (([] : List (Str × V)))))))))) = woF ⟨begin, goal, many, block, greed, mark, follow, going⟩ := by kernel_rfl
structure Gg where
  number : Int
  hand : Option Int
  puts : Addr
def ggF (k : Gg) : List (Str × V) := [("number", .int k.number), ("hand", oV k.hand), ("puts", .ref k.puts)]
abbrev cGoing (K : PySem.W.Frag) : Addr := He.ga K "Going"
theorem gg_number (k : Gg) : (ggF k).lookup ("number" : Str) = some (V.int k.number) := by kernel_rfl
theorem gg_put_number (k : Gg) (x : Int) : putF ("number" : Str) (V.int x) (ggF k) = ggF { k with number := x } := by kernel_rfl
theorem gg_hand (k : Gg) : (ggF k).lookup ("hand" : Str) = some (oV k.hand) := by kernel_rfl
theorem gg_put_hand (k : Gg) (x : Option Int) : putF ("hand" : Str) (oV x) (ggF k) = ggF { k with hand := x } := by kernel_rfl
theorem gg_puts (k : Gg) : (ggF k).lookup ("puts" : Str) = some (V.ref k.puts) := by kernel_rfl
theorem gg_put_puts (k : Gg) (x : Addr) : putF ("puts" : Str) (V.ref x) (ggF k) = ggF { k with puts := x } := by kernel_rfl
theorem gg_len (k : Gg) : (ggF k).length < 1000 := by show 3 < 1000; decide
theorem gg_put_handN (k : Gg) : putF ("hand" : Str) V.non (ggF k) = ggF { k with hand := none } := by kernel_rfl
theorem gg_put_handS (k : Gg) (x : Int) : putF ("hand" : Str) (V.int x) (ggF k) = ggF { k with hand := some x } := by kernel_rfl
theorem gg_made (number : Int) (hand : Option Int) (puts : Addr) : putF ("puts" : Str) (V.ref puts) (putF ("hand" : Str) (oV hand) (putF ("number" : Str) (V.int number) (([] : List (Str × V))))) = ggF ⟨number, hand, puts⟩ := by kernel_rfl
structure Dv where
  works : Addr
  took : Bool
  begun : Addr
def dvF (k : Dv) : List (Str × V) := [("works", .ref k.works), ("took", .bl k.took), ("begun", .ref k.begun)]
abbrev cDevice (K : PySem.W.Frag) : Addr := He.ga K "Device"
theorem dv_works (k : Dv) : (dvF k).lookup ("works" : Str) = some (V.ref k.works) := by kernel_rfl
theorem dv_put_works (k : Dv) (x : Addr) : putF ("works" : Str) (V.ref x) (dvF k) = dvF { k with works := x } := by kernel_rfl
theorem dv_took (k : Dv) : (dvF k).lookup ("took" : Str) = some (V.bl k.took) := by kernel_rfl
theorem dv_put_took (k : Dv) (x : Bool) : putF ("took" : Str) (V.bl x) (dvF k) = dvF { k with took := x } := by kernel_rfl
theorem dv_begun (k : Dv) : (dvF k).lookup ("begun" : Str) = some (V.ref k.begun) := by kernel_rfl
theorem dv_put_begun (k : Dv) (x : Addr) : putF ("begun" : Str) (V.ref x) (dvF k) = dvF { k with begun := x } := by kernel_rfl
theorem dv_no_is_on (k : Dv) : (dvF k).lookup ("is_on" : Str) = none := by kernel_rfl
theorem dv_no_wake (k : Dv) : (dvF k).lookup ("wake" : Str) = none := by kernel_rfl
theorem dv_no_start (k : Dv) : (dvF k).lookup ("start" : Str) = none := by kernel_rfl
theorem dv_no_move (k : Dv) : (dvF k).lookup ("move" : Str) = none := by kernel_rfl
theorem dv_no_taker (k : Dv) : (dvF k).lookup ("taker" : Str) = none := by kernel_rfl
theorem dv_no_numbers_on (k : Dv) : (dvF k).lookup ("numbers_on" : Str) = none := by kernel_rfl
theorem dv_no_shown_on (k : Dv) : (dvF k).lookup ("shown_on" : Str) = none := by kernel_rfl
theorem dv_len (k : Dv) : (dvF k).length < 1000 := by show 3 < 1000; decide
theorem dv_made (works : Addr) (took : Bool) (begun : Addr) : putF ("begun" : Str) (V.ref begun) (putF ("took" : Str) (V.bl took) (putF ("works" : Str) (V.ref works) (([] : List (Str × V))))) = dvF ⟨works, took, begun⟩ := by kernel_rfl
structure Mc where
  program : Addr
  cells : Addr
  marks : Addr
  row : Int
  spent : Int
def mcF (k : Mc) : List (Str × V) := [("program", .ref k.program), ("cells", .ref k.cells), ("marks", .ref k.marks), ("row", .int k.row), ("spent", .int k.spent)]
abbrev cMachine (K : PySem.W.Frag) : Addr := He.ga K "Machine"
theorem mc_program (k : Mc) : (mcF k).lookup ("program" : Str) = some (V.ref k.program) := by kernel_rfl
theorem mc_put_program (k : Mc) (x : Addr) : putF ("program" : Str) (V.ref x) (mcF k) = mcF { k with program := x } := by kernel_rfl
theorem mc_cells (k : Mc) : (mcF k).lookup ("cells" : Str) = some (V.ref k.cells) := by kernel_rfl
theorem mc_put_cells (k : Mc) (x : Addr) : putF ("cells" : Str) (V.ref x) (mcF k) = mcF { k with cells := x } := by kernel_rfl
theorem mc_marks (k : Mc) : (mcF k).lookup ("marks" : Str) = some (V.ref k.marks) := by kernel_rfl
theorem mc_put_marks (k : Mc) (x : Addr) : putF ("marks" : Str) (V.ref x) (mcF k) = mcF { k with marks := x } := by kernel_rfl
theorem mc_row (k : Mc) : (mcF k).lookup ("row" : Str) = some (V.int k.row) := by kernel_rfl
theorem mc_put_row (k : Mc) (x : Int) : putF ("row" : Str) (V.int x) (mcF k) = mcF { k with row := x } := by kernel_rfl
theorem mc_spent (k : Mc) : (mcF k).lookup ("spent" : Str) = some (V.int k.spent) := by kernel_rfl
theorem mc_put_spent (k : Mc) (x : Int) : putF ("spent" : Str) (V.int x) (mcF k) = mcF { k with spent := x } := by kernel_rfl
theorem mc_no_ended (k : Mc) : (mcF k).lookup ("ended" : Str) = none := by kernel_rfl
theorem mc_no_wanted (k : Mc) : (mcF k).lookup ("wanted" : Str) = none := by kernel_rfl
theorem mc_no_step (k : Mc) : (mcF k).lookup ("step" : Str) = none := by kernel_rfl
theorem mc_no_use_word (k : Mc) : (mcF k).lookup ("use_word" : Str) = none := by kernel_rfl
theorem mc_no_finish (k : Mc) : (mcF k).lookup ("finish" : Str) = none := by kernel_rfl
theorem mc_no_reckoned (k : Mc) : (mcF k).lookup ("reckoned" : Str) = none := by kernel_rfl
theorem mc_len (k : Mc) : (mcF k).length < 1000 := by show 5 < 1000; decide
theorem mc_made (program : Addr) (cells : Addr) (marks : Addr) (row : Int) (spent : Int) : putF ("spent" : Str) (V.int spent) (putF ("row" : Str) (V.int row) (putF ("marks" : Str) (V.ref marks) (putF ("cells" : Str) (V.ref cells) (putF ("program" : Str) (V.ref program) (([] : List (Str × V))))))) = mcF ⟨program, cells, marks, row, spent⟩ := by kernel_rfl
structure Fl where
  machine : Addr
  device : Addr
  words : Addr
  asks : Addr
  beats : Int
def flF (k : Fl) : List (Str × V) := [("machine", .ref k.machine), ("device", .ref k.device), ("words", .ref k.words), ("asks", .ref k.asks), ("beats", .int k.beats)]
abbrev cFloor (K : PySem.W.Frag) : Addr := He.ga K "Floor"
theorem fl_machine (k : Fl) : (flF k).lookup ("machine" : Str) = some (V.ref k.machine) := by kernel_rfl
theorem fl_put_machine (k : Fl) (x : Addr) : putF ("machine" : Str) (V.ref x) (flF k) = flF { k with machine := x } := by kernel_rfl
theorem fl_device (k : Fl) : (flF k).lookup ("device" : Str) = some (V.ref k.device) := by kernel_rfl
theorem fl_put_device (k : Fl) (x : Addr) : putF ("device" : Str) (V.ref x) (flF k) = flF { k with device := x } := by kernel_rfl
theorem fl_words (k : Fl) : (flF k).lookup ("words" : Str) = some (V.ref k.words) := by kernel_rfl
theorem fl_put_words (k : Fl) (x : Addr) : putF ("words" : Str) (V.ref x) (flF k) = flF { k with words := x } := by kernel_rfl
theorem fl_asks (k : Fl) : (flF k).lookup ("asks" : Str) = some (V.ref k.asks) := by kernel_rfl
theorem fl_put_asks (k : Fl) (x : Addr) : putF ("asks" : Str) (V.ref x) (flF k) = flF { k with asks := x } := by kernel_rfl
theorem fl_beats (k : Fl) : (flF k).lookup ("beats" : Str) = some (V.int k.beats) := by kernel_rfl
theorem fl_put_beats (k : Fl) (x : Int) : putF ("beats" : Str) (V.int x) (flF k) = flF { k with beats := x } := by kernel_rfl
theorem fl_no_pass_beat (k : Fl) : (flF k).lookup ("pass_beat" : Str) = none := by kernel_rfl
theorem fl_no_seen (k : Fl) : (flF k).lookup ("seen" : Str) = none := by kernel_rfl
theorem fl_len (k : Fl) : (flF k).length < 1000 := by show 5 < 1000; decide
theorem fl_made (machine : Addr) (device : Addr) (words : Addr) (asks : Addr) (beats : Int) : putF ("beats" : Str) (V.int beats) (putF ("asks" : Str) (V.ref asks) (putF ("words" : Str) (V.ref words) (putF ("device" : Str) (V.ref device) (putF ("machine" : Str) (V.ref machine) (([] : List (Str × V))))))) = flF ⟨machine, device, words, asks, beats⟩ := by kernel_rfl
structure Hl where
  floor : Addr
def hlF (k : Hl) : List (Str × V) := [("floor", .ref k.floor)]
abbrev cHall (K : PySem.W.Frag) : Addr := He.ga K "Hall"
theorem hl_floor (k : Hl) : (hlF k).lookup ("floor" : Str) = some (V.ref k.floor) := by kernel_rfl
theorem hl_put_floor (k : Hl) (x : Addr) : putF ("floor" : Str) (V.ref x) (hlF k) = hlF { k with floor := x } := by kernel_rfl
theorem hl_no_beat (k : Hl) : (hlF k).lookup ("beat" : Str) = none := by kernel_rfl
theorem hl_no_shown (k : Hl) : (hlF k).lookup ("shown" : Str) = none := by kernel_rfl
theorem hl_len (k : Hl) : (hlF k).length < 1000 := by show 1 < 1000; decide
theorem hl_made (floor : Addr) : putF ("floor" : Str) (V.ref floor) (([] : List (Str × V))) = hlF ⟨floor⟩ := by kernel_rfl
structure Wa where
  floor : Addr
  dones : Addr
  on_behind : Addr
  pairs : Addr
  first_get : Option Addr
  goings : Addr
def waF (k : Wa) : List (Str × V) := [("floor", .ref k.floor), ("dones", .ref k.dones), ("on_behind", .ref k.on_behind), ("pairs", .ref k.pairs), ("first_get", oA k.first_get), ("goings", .ref k.goings)]
abbrev cWatch (K : PySem.W.Frag) : Addr := He.ga K "Watch"
theorem wa_floor (k : Wa) : (waF k).lookup ("floor" : Str) = some (V.ref k.floor) := by kernel_rfl
theorem wa_put_floor (k : Wa) (x : Addr) : putF ("floor" : Str) (V.ref x) (waF k) = waF { k with floor := x } := by kernel_rfl
theorem wa_dones (k : Wa) : (waF k).lookup ("dones" : Str) = some (V.ref k.dones) := by kernel_rfl
theorem wa_put_dones (k : Wa) (x : Addr) : putF ("dones" : Str) (V.ref x) (waF k) = waF { k with dones := x } := by kernel_rfl
theorem wa_on_behind (k : Wa) : (waF k).lookup ("on_behind" : Str) = some (V.ref k.on_behind) := by kernel_rfl
theorem wa_put_on_behind (k : Wa) (x : Addr) : putF ("on_behind" : Str) (V.ref x) (waF k) = waF { k with on_behind := x } := by kernel_rfl
theorem wa_pairs (k : Wa) : (waF k).lookup ("pairs" : Str) = some (V.ref k.pairs) := by kernel_rfl
theorem wa_put_pairs (k : Wa) (x : Addr) : putF ("pairs" : Str) (V.ref x) (waF k) = waF { k with pairs := x } := by kernel_rfl
theorem wa_first_get (k : Wa) : (waF k).lookup ("first_get" : Str) = some (oA k.first_get) := by kernel_rfl
theorem wa_put_first_get (k : Wa) (x : Option Addr) : putF ("first_get" : Str) (oA x) (waF k) = waF { k with first_get := x } := by kernel_rfl
theorem wa_goings (k : Wa) : (waF k).lookup ("goings" : Str) = some (V.ref k.goings) := by kernel_rfl
theorem wa_put_goings (k : Wa) (x : Addr) : putF ("goings" : Str) (V.ref x) (waF k) = waF { k with goings := x } := by kernel_rfl
theorem wa_no_run (k : Wa) : (waF k).lookup ("run" : Str) = none := by kernel_rfl
theorem wa_no_run_till (k : Wa) : (waF k).lookup ("run_till" : Str) = none := by kernel_rfl
theorem wa_no_step (k : Wa) : (waF k).lookup ("step" : Str) = none := by kernel_rfl
theorem wa_no_note_get (k : Wa) : (waF k).lookup ("note_get" : Str) = none := by kernel_rfl
theorem wa_len (k : Wa) : (waF k).length < 1000 := by show 6 < 1000; decide
theorem wa_put_first_getS (k : Wa) (x : Addr) : putF ("first_get" : Str) (V.ref x) (waF k) = waF { k with first_get := some x } := by kernel_rfl
theorem wa_made (floor : Addr) (dones : Addr) (on_behind : Addr) (pairs : Addr) (first_get : Option Addr) (goings : Addr) : putF ("goings" : Str) (V.ref goings) (putF ("first_get" : Str) (oA first_get) (putF ("pairs" : Str) (V.ref pairs) (putF ("on_behind" : Str) (V.ref on_behind) (putF ("dones" : Str) (V.ref dones) (putF ("floor" : Str) (V.ref floor) (([] : List (Str × V)))))))) = waF ⟨floor, dones, on_behind, pairs, first_get, goings⟩ := by kernel_rfl
end SB

set_option Elab.async false
set_option linter.all false
set_option maxRecDepth 100000
set_option maxHeartbeats 2000000
namespace SB
open PySem L2
section
variable {K : PySem.W.Frag} {σ : St} {H H1 : Hp} {Q : VK} {a C dx : Addr} {fs : List (Str × V)} {f : Str} {v y : V} {i : Nat} {ta tv : TE} {D : Ends}
theorem sf (h2 : H a = some (.ins C dx fs)) (h3 : Cls K C) (h4 : NoAttr K C f) (h5 : fs.lookup f = some v) (q : Q v H) (h1 : σ[i]? = some (some (.ref a)) := by rfl) : tFld K (tVar i) f σ H Q := ⟨_, h1, a, C, dx, fs, v, rfl, h2, h3, h4, h5, q⟩
theorem ff (h2 : H a = some (.ins C dx fs)) (h3 : Cls K C) (h4 : NoAttr K C f) (h5 : fs.lookup f = some v) (q : Q v H) :
    ∃ a' C' dx' fs' v', V.ref a = .ref a' ∧ H a' = some (.ins C' dx' fs') ∧ Cls K C' ∧ NoAttr K C' f ∧ fs'.lookup f = some v' ∧ Q v' H := ⟨a, C, dx, fs, v, rfl, h2, h3, h4, h5, q⟩
theorem stf (h2 : H a = some (.ins C dx fs)) (h3 : Cls K C) (h4 : NoAttr K C f) (h5 : fs.length < 1000) {fs' : List (Str × V)} (e : putF f y fs = fs') (q : D.nx σ (upd H a (.ins C dx fs'))) (h1 : σ[i]? = some (some (.ref a)) := by rfl) :
    tVar i σ H fun x H2 => ∃ a C dx fs, x = .ref a ∧ H2 a = some (.ins C dx fs) ∧ Cls K C ∧ NoAttr K C f ∧ fs.length < 1000 ∧ D.nx σ (upd H2 a (.ins C dx (putF f y fs))) := ⟨_, h1, a, C, dx, fs, rfl, h2, h3, h4, h5, by rw [e]; exact q⟩
theorem augf {z n : Int} (h2 : H a = some (.ins C dx fs)) (h3 : Cls K C) (h4 : NoAttr K C f) (h5 : fs.lookup f = some (.int z)) (h6 : fs.length < 1000) {fs' : List (Str × V)} (e : putF f (.int (z + n)) fs = fs')
    (q : D.nx σ (upd H a (.ins C dx fs'))) (h1 : σ[i]? = some (some (.ref a)) := by rfl) : sFldAug K (tVar i) (tC (.int n)) rAdd f D σ H := ⟨_, h1, a, C, dx, fs, _, rfl, h2, h3, h4, h5, _, _, rfl, rfl, dx, fs, h2, h6, by rw [e]; exact q⟩
end
theorem yes {σ : L2.St} {H : Hp} {A B : Hp → Prop} (h : A H) : tYes σ H fun b H3 => if b = true then A H3 else B H3 := by
  show if true = true then A H else B H
  rw [if_pos rfl]
  exact h
theorem lt1000 {n : Nat} (h : Nat.blt n 1000 = true) : n < 1000 := Nat.le_of_ble_eq_true h
theorem at_int {ws : List Int} {z : Int} (h0 : 0 ≤ z) (h1 : z < ws.length) : atI (ws.map V.int) z = some (.int (ws.getD z.toNat 0)) := by
  unfold atI ixN
  rw [if_pos h0, List.length_map, if_pos h1]
  have : z.toNat < ws.length := by omega
  simp [List.getD, List.getElem?_eq_getElem this]
theorem ix_ok {n : Nat} {z : Int} (h0 : 0 ≤ z) (h1 : z < n) : ixN n z = some z.toNat := by
  unfold ixN
  rw [if_pos h0, if_pos h1]
theorem set_int {ws : List Int} {j : Nat} {x : Int} : (ws.map V.int).set j (.int x) = (ws.set j x).map V.int := by rw [List.map_set]
def Kept (as : List Addr) (H H' : Hp) : Prop := ∀ b o, H b = some o → b ∉ as → H' b = some o
theorem Kept.refl (as : List Addr) (H : Hp) : Kept as H H := fun _ _ h _ => h
theorem Kept.trans {as : List Addr} {H H1 H2 : Hp} (a : Kept as H H1) (b : Kept as H1 H2) : Kept as H H2 := fun c o h n => b c o (a c o h n) n
theorem Kept.mono {as bs : List Addr} {H H1 : Hp} (a : Kept as H H1) (h : ∀ x ∈ as, x ∈ bs) : Kept bs H H1 := fun c o e n => a c o e fun m => n (h c m)
theorem Kept.put {as : List Addr} {H H1 : Hp} {p : Addr} {o : HO} (a : Kept as H H1) (h : p ∈ as) : Kept as H (L2.upd H1 p o) := fun c u e n => by
  have hc : c ≠ p := fun z => n (by rw [z]; exact h)
  rw [upd_ne hc]
  exact a c u e n
theorem Kept.new {as : List Addr} {H H1 : Hp} {p : Addr} {o : HO} (a : Kept as H H1) (h : H p = none) : Kept as H (L2.upd H1 p o) := fun c u e n => by rw [upd_ne (ne_of_none e h)]; exact a c u e n
theorem Kept.same {as : List Addr} {H H1 : Hp} (s : Same H H1) : Kept as H H1 := fun c u e _ => s c u e
theorem Kept.toSame {H H1 : Hp} (a : Kept [] H H1) : Same H H1 := fun c u e => a c u e (by simp)
theorem Same.new {H H1 : Hp} {p : Addr} {o : HO} (a : Same H H1) (h : H p = none) : Same H (L2.upd H1 p o) := fun c u e => by rw [upd_ne (ne_of_none e h)]; exact a c u e
theorem Kept.free {as : List Addr} {H H' : Hp} (e : Kept as H H') {p : Addr} (h : H' p = none) (n : p ∉ as) : H p = none := by
  cases q : H p with
  | none => rfl
  | some o => rw [e p o q n] at h; cases h
theorem Same.tup {K : PySem.W.Frag} {H H' : Hp} {a : Addr} {xs : List V} (e : Same H H') (h : SqT K H a xs) : SqT K H' a xs := by
  rcases h with (h | ⟨o, h⟩) | h
  · exact .inl (.inl (e _ _ h))
  · exact .inl (.inr ⟨o, e _ _ h⟩)
  · exact .inr h
end SB

set_option Elab.async false
set_option linter.all false
set_option maxRecDepth 100000
set_option maxHeartbeats 2000000
namespace SB
open PySem L2
def Wk.start (k : Wk) : Wk := if k.on = true then k else { k with on := true, laid := 0 }
def Wk.held (k : Wk) (ms : List Bool) : Bool := match k.mark with
  | none => false
  | some m => if ms.getD m.toNat false = true then (k.hand.isNone && decide (k.laid % k.block = 0)) else false
def mayK (g : Str) (wanted took : Bool) : Bool := if g = "all" then true else if wanted = false then true else if g = "turn" then !took else false
def Wk.may (k : Wk) (wanted took : Bool) : Bool := if k.greed = "all" then true else if wanted = false then true else if k.greed = "turn" then !took else false
def Wk.move (k : Wk) (ws : List Int) : Wk × List Int × (Str × Int × Int) := match k.hand with
  | none => ({ k with hand := some (ws.getD ((k.begin + k.laid) % ws.length).toNat 0) }, ws, ("get", (k.begin + k.laid) % ws.length, ws.getD ((k.begin + k.laid) % ws.length).toNat 0))
  | some x => ({ k with hand := none, laid := k.laid + 1, on := decide (k.laid + 1 < k.many) }, ws.set ((k.goal + k.laid) % ws.length).toNat x, ("put", (k.goal + k.laid) % ws.length, x))
def Wk.wo (k : Wk) (g : Option Addr) : Wo := ⟨k.begin, k.goal, k.many, k.block, k.greed, k.mark, k.follow, g⟩
theorem mod_rg {x : Int} {n : Nat} (h : 0 < n) : 0 ≤ x % (n : Int) ∧ x % (n : Int) < n := ⟨Int.emod_nonneg _ (by omega), Int.emod_lt_of_pos _ (by omega)⟩
section
variable {P : Program} {w : World} {K : PySem.W.Frag} {mg : Str → Option Value} {base : Heap}
def sp_Going_init (K : PySem.W.Frag) : Sp := fun vs H Q _ => ∃ (a dx : Addr) (n : Int), vs = [.ref a, .int n] ∧ H a = some (.ins (cGoing K) dx []) ∧
  ∀ H' p, H p = none → H' p = some (.lst []) → H' a = some (.ins (cGoing K) dx (ggF ⟨n, none, p⟩)) → Kept [a] H H' → Q .non H'
def sp_Work_init (K : PySem.W.Frag) : Sp := fun vs H Q _ => ∃ (a dx : Addr) (b g m c : Int) (gr : Str) (mk fo : Option Int), vs = [.ref a, .int b, .int g, .int m, .int c, .str gr, oV mk, oV fo] ∧ H a = some (.ins (cWork K) dx []) ∧
  ∀ H', H' a = some (.ins (cWork K) dx (woF ⟨b, g, m, c, gr, mk, fo, none⟩)) → Kept [a] H H' → Q .non H'
def sp_Work_held_off (K : PySem.W.Frag) : Sp := fun vs H Q _ => ∃ (a dx m g dg pl : Addr) (k : Wk) (n : Int) (xs : List V) (ms : List Bool), vs = [.ref a, .ref m] ∧ H a = some (.ins (cWork K) dx (woF (k.wo (some g)))) ∧ H g = some (.ins (cGoing K) dg (ggF ⟨n, k.hand, pl⟩)) ∧ H pl = some (.lst xs) ∧ (xs.length : Int) = k.laid ∧ H m = some (.lst (ms.map V.bl)) ∧ 0 < k.block ∧ (∀ i, k.mark = some i → 0 ≤ i ∧ i < ms.length) ∧ Q (.bl (k.held ms)) H
theorem at_bl {ms : List Bool} {z : Int} (h0 : 0 ≤ z) (h1 : z < ms.length) : atI (ms.map V.bl) z = some (.bl (ms.getD z.toNat false)) := by
  unfold atI ixN
  rw [if_pos h0, List.length_map, if_pos h1]
  have : z.toNat < ms.length := by omega
  simp [List.getD, List.getElem?_eq_getElem this]
theorem dec_intv {x y : Int} : decide (V.int x = V.int y) = decide (x = y) := by
  by_cases z : x = y
  · rw [decide_eq_true z, decide_eq_true (by rw [z])]
  · rw [decide_eq_false z, decide_eq_false (fun y => z (V.int.inj y))]
def sp_Work_may_take (K : PySem.W.Frag) : Sp := fun vs H Q _ => ∃ (a dx : Addr) (k : Wo) (wanted took : Bool), vs = [.ref a, .bl wanted, .bl took] ∧ H a = some (.ins (cWork K) dx (woF k)) ∧ Q (.bl ((mayK k.greed) wanted took)) H
theorem dec_str {x y : Str} : decide (V.str x = V.str y) = decide (x = y) := by
  by_cases z : x = y
  · rw [decide_eq_true z, decide_eq_true (by rw [z])]
  · rw [decide_eq_false z, decide_eq_false (fun y => z (V.str.inj y))]
def FetchPost (K : PySem.W.Frag) (H H' : Hp) (p g dg pl : Addr) (n : Int) (k : Wk) (ws : List Int) : Prop :=
  H p = none ∧ H' p = some (.tup [.str "get", .int ((k.begin + k.laid) % ws.length), .int (ws.getD ((k.begin + k.laid) % ws.length).toNat 0)]) ∧ H' g = some (.ins (cGoing K) dg (ggF ⟨n, some (ws.getD ((k.begin + k.laid) % ws.length).toNat 0), pl⟩)) ∧ Kept [g] H H'
def sp_Work_fetch (K : PySem.W.Frag) : Sp := fun vs H Q _ => ∃ (a dx g dg pl l : Addr) (k : Wk) (n : Int) (xs : List V) (ws : List Int), vs = [.ref a, .ref l] ∧ H a = some (.ins (cWork K) dx (woF (k.wo (some g)))) ∧ H g = some (.ins (cGoing K) dg (ggF ⟨n, k.hand, pl⟩)) ∧ H pl = some (.lst xs) ∧ (xs.length : Int) = k.laid ∧
  H l = some (.lst (ws.map V.int)) ∧ 0 < ws.length ∧ ∀ H' p, FetchPost K H H' p g dg pl n k ws → Q (.ref p) H'
def LayPost (K : PySem.W.Frag) (H H' : Hp) (p t a dx g dg pl l : Addr) (n when : Int) (k : Wk) (xs : List V) (ws : List Int) (x : Int) : Prop :=
  H p = none ∧ H t = none ∧ H' p = some (.tup [.str "put", .int ((k.goal + k.laid) % ws.length), .int x]) ∧ H' t = some (.tup [.int when, .int ((k.goal + k.laid) % ws.length)]) ∧ H' pl = some (.lst (xs ++ [.ref t])) ∧ H' g = some (.ins (cGoing K) dg (ggF ⟨n, none, pl⟩)) ∧
  H' a = some (.ins (cWork K) dx (woF (k.wo (if k.laid + 1 < k.many then some g else none)))) ∧ H' l = some (.lst ((ws.set ((k.goal + k.laid) % ws.length).toNat x).map V.int)) ∧ Kept [a, g, pl, l] H H'
def sp_Work_lay (K : PySem.W.Frag) : Sp := fun vs H Q _ => ∃ (a dx g dg pl l : Addr) (k : Wk) (n when x : Int) (xs : List V) (ws : List Int), vs = [.ref a, .int when, .ref l] ∧ H a = some (.ins (cWork K) dx (woF (k.wo (some g)))) ∧ H g = some (.ins (cGoing K) dg (ggF ⟨n, k.hand, pl⟩)) ∧ H pl = some (.lst xs) ∧ (xs.length : Int) = k.laid ∧
  H l = some (.lst (ws.map V.int)) ∧ 0 < ws.length ∧ a ≠ g ∧ l ≠ pl ∧ k.hand = some x ∧ k.laid < k.many ∧ k.laid < 1000 ∧ ∀ H' p t, LayPost K H H' p t a dx g dg pl l n when k xs ws x → Q (.ref p) H'
def sp_Work_move (K : PySem.W.Frag) : Sp := fun vs H Q _ => ∃ (a dx g dg pl l : Addr) (k : Wk) (n when : Int) (xs : List V) (ws : List Int), vs = [.ref a, .int when, .ref l] ∧ H a = some (.ins (cWork K) dx (woF (k.wo (some g)))) ∧ H g = some (.ins (cGoing K) dg (ggF ⟨n, k.hand, pl⟩)) ∧ H pl = some (.lst xs) ∧ (xs.length : Int) = k.laid ∧
  H l = some (.lst (ws.map V.int)) ∧ 0 < ws.length ∧ a ≠ g ∧ l ≠ pl ∧ k.laid < k.many ∧ k.laid < 1000 ∧ (k.hand = none → ∀ H' p, FetchPost K H H' p g dg pl n k ws → Q (.ref p) H') ∧ (∀ x, k.hand = some x → ∀ H' p t, LayPost K H H' p t a dx g dg pl l n when k xs ws x → Q (.ref p) H')
end
end SB

set_option Elab.async false
set_option linter.all false
set_option maxRecDepth 100000
set_option maxHeartbeats 2000000
namespace SB
open PySem L2
structure Go where
  n : Nat
  hand : Option Int
  pu : List (Int × Int)
structure GH where
  G : List Go
  cur : List (Option Nat)
  nb : Nat
def GH.start (g : GH) (n : Nat) : GH := match g.cur[n]? with
  | some none => { g with G := g.G ++ [⟨n, none, []⟩], cur := g.cur.set n (some g.G.length) }
  | _ => g
def GH.move (g : GH) (j : Nat) (k : Wk) (when : Int) (ws : List Int) : GH := match g.cur[j]? with
  | some (some i) => (match g.G[i]? with
    | some e => (match k.hand with
      | none => { g with G := g.G.set i { e with hand := some (ws.getD ((k.begin + k.laid) % ws.length).toNat 0) } }
      | some _ => { g with G := g.G.set i { e with hand := none, pu := e.pu ++ [(when, (k.goal + k.laid) % ws.length)] }, cur := if k.laid + 1 < k.many then g.cur else g.cur.set j none })
    | none => g)
  | _ => g
structure GOk (ks : List Wk) (g : GH) : Prop where
  clen : g.cur.length = ks.length
  on : ∀ (j : Nat) (k : Wk) (i : Nat), ks[j]? = some k → g.cur[j]? = some (some i) → k.on = true ∧ ∃ e, g.G[i]? = some e ∧ e.n = j ∧ e.hand = k.hand ∧ (e.pu.length : Int) = k.laid ∧ k.laid < k.many
  off : ∀ (j : Nat) (k : Wk), ks[j]? = some k → g.cur[j]? = some none → k.on = false ∧ k.hand = none
  mb : ∀ k ∈ ks, 0 < k.many ∧ k.many ≤ 16
  nbl : g.nb ≤ g.G.length
section
variable {α : Type}
theorem gset_self {l : List α} {i : Nat} {x y : α} (h : l[i]? = some y) : (l.set i x)[i]? = some x := List.getElem?_set_self (List.getElem?_eq_some_iff.mp h).1
theorem gset_ne {l : List α} {i j : Nat} {x : α} (h : j ≠ i) : (l.set i x)[j]? = l[j]? := List.getElem?_set_ne (fun z => h z.symm)
theorem gapp {l r : List α} {i : Nat} {x : α} (h : l[i]? = some x) : (l ++ r)[i]? = some x := by rw [List.getElem?_append_left (List.getElem?_eq_some_iff.mp h).1]; exact h
theorem gend {l : List α} {x : α} : (l ++ [x])[l.length]? = some x := by simp
theorem set_same {l : List α} {i : Nat} {x : α} (h : l[i]? = some x) : l.set i x = l := by
  obtain ⟨hi, e⟩ := List.getElem?_eq_some_iff.mp h
  rw [← e]
  exact List.set_getElem_self hi
theorem modify_out {f : α → α} : ∀ {l : List α} {i : Nat}, l.length ≤ i → l.modify i f = l
  | [], i, _ => by cases i <;> rfl
  | a :: r, 0, h => by simp at h
  | a :: r, i + 1, h => by
    show a :: r.modify i f = a :: r
    rw [modify_out (by simpa using h)]
theorem modify_set {f : α → α} : ∀ {l : List α} {i : Nat} {x : α}, l[i]? = some x → l.modify i f = l.set i (f x)
  | [], i, x, h => by simp at h
  | a :: r, 0, x, h => by
    have e : a = x := by simpa using h
    subst e
    rfl
  | a :: r, i + 1, x, h => by
    show a :: r.modify i f = a :: r.set i (f x)
    rw [modify_set (by simpa using h)]
theorem all_modify {p : α → Prop} {f : α → α} (hf : ∀ x, p x → p (f x)) : ∀ {l : List α} {i : Nat}, (∀ x ∈ l, p x) → ∀ x ∈ l.modify i f, p x
  | [], i, h, x, hx => by cases i <;> simp [List.modify] at hx
  | a :: r, 0, h, x, hx => by
    have hx' : x ∈ f a :: r := hx
    rcases List.mem_cons.mp hx' with rfl | hx'
    · exact hf a (h a List.mem_cons_self)
    · exact h x (List.mem_cons_of_mem _ hx')
  | a :: r, i + 1, h, x, hx => by
    have hx' : x ∈ a :: r.modify i f := hx
    rcases List.mem_cons.mp hx' with rfl | hx'
    · exact h x List.mem_cons_self
    · exact all_modify hf (fun y hy => h y (List.mem_cons_of_mem _ hy)) x hx'
theorem all_set {p : α → Prop} {l : List α} {i : Nat} {y : α} (h : ∀ x ∈ l, p x) (hy : p y) : ∀ x ∈ l.set i y, p x := fun x hx => by
  rcases List.mem_or_eq_of_mem_set hx with z | z
  · exact h x z
  · rw [z]; exact hy
end
section
variable {ks : List Wk} {g : GH}
theorem start_none {n : Nat} (h : g.cur[n]? = none) : g.start n = g := by unfold GH.start; rw [h]
theorem start_on {n i : Nat} (h : g.cur[n]? = some (some i)) : g.start n = g := by unfold GH.start; rw [h]
theorem start_off {n : Nat} (h : g.cur[n]? = some none) : g.start n = { g with G := g.G ++ [⟨n, none, []⟩], cur := g.cur.set n (some g.G.length) } := by unfold GH.start; rw [h]
theorem move_eq {j i : Nat} {e : Go} {k : Wk} {when : Int} {ws : List Int} (h1 : g.cur[j]? = some (some i)) (h2 : g.G[i]? = some e) : g.move j k when ws = (match k.hand with
      | none => { g with G := g.G.set i { e with hand := some (ws.getD ((k.begin + k.laid) % ws.length).toNat 0) } }
      | some _ => { g with G := g.G.set i { e with hand := none, pu := e.pu ++ [(when, (k.goal + k.laid) % ws.length)] }, cur := if k.laid + 1 < k.many then g.cur else g.cur.set j none }) := by
  unfold GH.move
  rw [h1]
  simp only [h2]
theorem GOk.start_same (O : GOk ks g) {n : Nat} (h : g.cur[n]? ≠ some none) : ks.modify n Wk.start = ks := by
  cases e : g.cur[n]? with
  | none =>
    have := List.getElem?_eq_none_iff.mp e
    rw [O.clen] at this
    exact modify_out this
  | some o =>
    cases o with
    | none => exact absurd e h
    | some i =>
      have hn : n < ks.length := by rw [← O.clen]; exact (List.getElem?_eq_some_iff.mp e).1
      have hk := List.getElem?_eq_getElem hn
      rw [modify_set hk]
      have ho := (O.on n _ i hk e).1
      have es : (ks[n]).start = ks[n] := by unfold Wk.start; rw [if_pos ho]
      rw [es]
      exact set_same hk
theorem GOk.start (O : GOk ks g) (n : Nat) : GOk (ks.modify n Wk.start) (g.start n) := by
  by_cases h : g.cur[n]? = some none
  · have hn : n < ks.length := by rw [← O.clen]; exact (List.getElem?_eq_some_iff.mp h).1
    have hk := List.getElem?_eq_getElem hn
    obtain ⟨o1, o2⟩ := O.off n _ hk h
    rw [start_off h, modify_set hk]
    have es : (ks[n]).start = { ks[n] with on := true, laid := 0 } := by unfold Wk.start; rw [o1]; rfl
    rw [es]
    have mb := O.mb _ (List.mem_of_getElem? hk)
    refine ⟨by simp [O.clen], fun j k i h1 h2 => ?_, fun j k h1 h2 => ?_, all_set O.mb mb, ?_⟩
    · by_cases hj : j = n
      · subst hj
        rw [gset_self hk] at h1
        have h2' : (g.cur.set j (some g.G.length))[j]? = some (some i) := h2
        rw [gset_self h] at h2'
        cases h1
        cases h2'
        exact ⟨rfl, _, gend, rfl, o2.symm, rfl, mb.1⟩
      · rw [gset_ne hj] at h1
        have h2' : (g.cur.set n (some g.G.length))[j]? = some (some i) := h2
        rw [gset_ne hj] at h2'
        obtain ⟨p1, e, p2, p3⟩ := O.on j k i h1 h2'
        exact ⟨p1, e, gapp p2, p3⟩
    · by_cases hj : j = n
      · subst hj
        have h2' : (g.cur.set j (some g.G.length))[j]? = some none := h2
        rw [gset_self h] at h2'
        cases h2'
      · rw [gset_ne hj] at h1
        have h2' : (g.cur.set n (some g.G.length))[j]? = some none := h2
        rw [gset_ne hj] at h2'
        exact O.off j k h1 h2'
    · have := O.nbl
      show g.nb ≤ (g.G ++ [_]).length
      rw [List.length_append]
      omega
  · rw [O.start_same h]
    cases e : g.cur[n]? with
    | none => rw [start_none e]; exact O
    | some o =>
      cases o with
      | none => exact absurd e h
      | some i => rw [start_on e]; exact O
theorem GOk.inj (O : GOk ks g) {j j' i : Nat} (h : g.cur[j]? = some (some i)) (h' : g.cur[j']? = some (some i)) : j = j' := by
  have f : ∀ {j : Nat}, g.cur[j]? = some (some i) → ∃ k, ks[j]? = some k := fun {j} h => ⟨_, List.getElem?_eq_getElem (by rw [← O.clen]; exact (List.getElem?_eq_some_iff.mp h).1)⟩
  obtain ⟨k, hk⟩ := f h
  obtain ⟨k', hk'⟩ := f h'
  obtain ⟨_, e, e1, e2, _⟩ := O.on j k i hk h
  obtain ⟨_, e', e1', e2', _⟩ := O.on j' k' i hk' h'
  rw [e1] at e1'
  cases e1'
  rw [← e2, ← e2']
theorem GOk.move (O : GOk ks g) {j i : Nat} {k : Wk} {ws : List Int} {when : Int} (hk : ks[j]? = some k) (hc : g.cur[j]? = some (some i)) : GOk (ks.set j (k.move ws).1) (g.move j k when ws) := by
  obtain ⟨p1, e, p2, p3, p4, p5, p6⟩ := O.on j k i hk hc
  have hi : ∀ {j' i' : Nat}, g.cur[j']? = some (some i') → j' ≠ j → i' ≠ i := fun h n z => by subst z; exact n (O.inj h hc)
  rw [move_eq hc p2]
  have mb := O.mb _ (List.mem_of_getElem? hk)
  unfold Wk.move
  cases hh : k.hand with
  | none =>
    dsimp only
    refine ⟨by simp [O.clen], fun j' k' i' h1 h2 => ?_, fun j' k' h1 h2 => ?_, all_set O.mb mb, by simpa using O.nbl⟩
    · by_cases hj : j' = j
      · subst hj
        rw [gset_self hk] at h1
        cases h1
        have h2' : g.cur[j']? = some (some i') := h2
        rw [hc] at h2'
        cases h2'
        exact ⟨p1, _, gset_self p2, p3, rfl, p5, p6⟩
      · rw [gset_ne hj] at h1
        obtain ⟨q1, e', q2, q3⟩ := O.on j' k' i' h1 h2
        exact ⟨q1, e', by rw [gset_ne (hi h2 hj)]; exact q2, q3⟩
    · by_cases hj : j' = j
      · subst hj
        have h2' : g.cur[j']? = some none := h2
        rw [hc] at h2'
        cases h2'
      · rw [gset_ne hj] at h1
        exact O.off j' k' h1 h2
  | some x =>
    dsimp only
    have cl : (if k.laid + 1 < k.many then g.cur else g.cur.set j none).length = (ks.set j ({ k with hand := none, laid := k.laid + 1, on := decide (k.laid + 1 < k.many) })).length := by
      split <;> simp [O.clen]
    refine ⟨cl, fun j' k' i' h1 h2 => ?_, fun j' k' h1 h2 => ?_, all_set O.mb mb, by simpa using O.nbl⟩
    · by_cases hj : j' = j
      · subst hj
        rw [gset_self hk] at h1
        cases h1
        have h2' : (if k.laid + 1 < k.many then g.cur else g.cur.set j' none)[j']? = some (some i') := h2
        by_cases c : k.laid + 1 < k.many
        · rw [if_pos c, hc] at h2'
          cases h2'
          refine ⟨decide_eq_true c, _, gset_self p2, p3, rfl, ?_, c⟩
          show (((e.pu ++ [_]).length : Nat) : Int) = k.laid + 1
          rw [List.length_append]
          show ((e.pu.length + 1 : Nat) : Int) = k.laid + 1
          omega
        · rw [if_neg c, gset_self hc] at h2'
          cases h2'
      · rw [gset_ne hj] at h1
        have h2' : g.cur[j']? = some (some i') := by
          have h3 : (if k.laid + 1 < k.many then g.cur else g.cur.set j none)[j']? = some (some i') := h2
          by_cases c : k.laid + 1 < k.many
          · rw [if_pos c] at h3; exact h3
          · rw [if_neg c, gset_ne hj] at h3; exact h3
        obtain ⟨q1, e', q2, q3⟩ := O.on j' k' i' h1 h2'
        exact ⟨q1, e', by rw [gset_ne (hi h2' hj)]; exact q2, q3⟩
    · have h3 : (if k.laid + 1 < k.many then g.cur else g.cur.set j none)[j']? = some none := h2
      by_cases hj : j' = j
      · subst hj
        rw [gset_self hk] at h1
        cases h1
        by_cases c : k.laid + 1 < k.many
        · rw [if_pos c, hc] at h3
          cases h3
        · exact ⟨decide_eq_false c, rfl⟩
      · rw [gset_ne hj] at h1
        refine O.off j' k' h1 ?_
        by_cases c : k.laid + 1 < k.many
        · rw [if_pos c] at h3; exact h3
        · rw [if_neg c, gset_ne hj] at h3; exact h3
end
structure Step (F : List Addr) (H : Hp) (F' : List Addr) (H' : Hp) : Prop where
  kp : Kept F H H'
  gr : ∀ b ∈ F', b ∈ F ∨ H b = none
  fr : ∀ b, H' b = none → H b = none
theorem upd_none {H : Hp} {p b : Addr} {o : HO} (h : L2.upd H p o b = none) : H b = none := by
  by_cases e : b = p
  · rw [e, upd_same] at h; cases h
  · rw [upd_ne e] at h; exact h
theorem Kept.fr {as : List Addr} {H H' : Hp} (k : Kept as H H') (h : ∀ b ∈ as, H' b ≠ none) : ∀ b, H' b = none → H b = none := fun b hb => k.free hb (fun z => h b z hb)
theorem Step.refl (F : List Addr) (H : Hp) : Step F H F H := ⟨Kept.refl _ _, fun b h => .inl h, fun _ h => h⟩
theorem Step.same {F : List Addr} {H H' : Hp} (s : Same H H') : Step F H F H' := ⟨Kept.same s, fun b h => .inl h, fun _ h => Same.free s h⟩
theorem Step.of {F : List Addr} {H H' : Hp} (s : Kept F H H') (fr : ∀ b, H' b = none → H b = none) : Step F H F H' := ⟨s, fun b h => .inl h, fr⟩
theorem Step.trans {F F1 F2 : List Addr} {H H1 H2 : Hp} (a : Step F H F1 H1) (b : Step F1 H1 F2 H2) : Step F H F2 H2 := by
  refine ⟨fun c o h n => b.kp c o (a.kp c o h n) fun z => ?_, fun c hc => ?_, fun c h => a.fr c (b.fr c h)⟩
  · rcases a.gr c z with z | z
    · exact n z
    · rw [z] at h; cases h
  · rcases b.gr c hc with z | z
    · exact a.gr c z
    · exact .inr (a.fr c z)
theorem Step.apart {F F' : List Addr} {H H' : Hp} (a : Step F H F' H') {p : Addr} {o : HO} (h : H p = some o) (n : p ∉ F) : p ∉ F' := fun z => by
  rcases a.gr p z with z | z
  · exact n z
  · rw [z] at h; cases h
structure Stp (X F : List Addr) (H : Hp) (F' : List Addr) (H' : Hp) : Prop where
  kp : Kept (X ++ F) H H'
  gr : ∀ b ∈ F', b ∈ F ∨ H b = none
  fr : ∀ b, H' b = none → H b = none
theorem Stp.refl (X F : List Addr) (H : Hp) : Stp X F H F H := ⟨Kept.refl _ _, fun b h => .inl h, fun _ h => h⟩
theorem Stp.same {X F : List Addr} {H H' : Hp} (s : Same H H') : Stp X F H F H' := ⟨Kept.same s, fun b h => .inl h, fun _ h => Same.free s h⟩
theorem Stp.of {X F : List Addr} {H H' : Hp} (s : Kept (X ++ F) H H') (fr : ∀ b, H' b = none → H b = none) : Stp X F H F H' := ⟨s, fun b h => .inl h, fr⟩
theorem Stp.trans {X F F1 F2 : List Addr} {H H1 H2 : Hp} (a : Stp X F H F1 H1) (b : Stp X F1 H1 F2 H2) : Stp X F H F2 H2 := by
  refine ⟨fun c o h n => b.kp c o (a.kp c o h n) fun z => ?_, fun c hc => ?_, fun c h => a.fr c (b.fr c h)⟩
  · rcases List.mem_append.mp z with z | z
    · exact n (List.mem_append.mpr (.inl z))
    · rcases a.gr c z with z | z
      · exact n (List.mem_append.mpr (.inr z))
      · rw [z] at h; cases h
  · rcases b.gr c hc with z | z
    · exact a.gr c z
    · exact .inr (a.fr c z)
theorem Stp.mono {X Y F F' : List Addr} {H H' : Hp} (a : Stp X F H F' H') (h : ∀ x ∈ X, x ∈ Y) : Stp Y F H F' H' :=
  ⟨a.kp.mono (fun x hx => by
    rcases List.mem_append.mp hx with z | z
    · exact List.mem_append.mpr (.inl (h x z))
    · exact List.mem_append.mpr (.inr z)), a.gr, a.fr⟩
theorem Step.more {F F' : List Addr} {H H' : Hp} (a : Step F H F' H') (X : List Addr) : Stp X F H F' H' := ⟨a.kp.mono (fun x hx => List.mem_append.mpr (.inr hx)), a.gr, a.fr⟩
theorem Stp.apart {X F F' : List Addr} {H H' : Hp} (a : Stp X F H F' H') {p : Addr} {o : HO} (h : H p = some o) (n : p ∉ F) : p ∉ F' := fun z => by
  rcases a.gr p z with z | z
  · exact n z
  · rw [z] at h; cases h
theorem Stp.all {X F F' : List Addr} {H H' : Hp} (a : Stp X F H F' H') : Step (X ++ F) H (X ++ F') H' := ⟨a.kp, fun b hb => by
  rcases List.mem_append.mp hb with z | z
  · exact .inl (List.mem_append.mpr (.inl z))
  · rcases a.gr b z with z | z
    · exact .inl (List.mem_append.mpr (.inr z))
    · exact .inr z, a.fr⟩
structure TupsAt (H : Hp) (D : Addr) (ps : List Addr) (vss : List (List V)) : Prop where
  lst : H D = some (.lst (ps.map V.ref))
  len : ps.length = vss.length
  at_ : ∀ (j : Nat) (p : Addr) (vs : List V), ps[j]? = some p → vss[j]? = some vs → H p = some (.tup vs)
section
variable {H H' : Hp}
theorem tups_snoc {D p : Addr} {ps : List Addr} {vss : List (List V)} {vs : List V} (t : TupsAt H D ps vss) (h1 : H' D = some (.lst ((ps ++ [p]).map V.ref))) (h2 : H' p = some (.tup vs)) (kp : ∀ q us, H q = some (.tup us) → H' q = some (.tup us)) : TupsAt H' D (ps ++ [p]) (vss ++ [vs]) := by
  refine ⟨h1, by simp [t.len], fun j q us e1 e2 => ?_⟩
  by_cases hj : j < ps.length
  · rw [List.getElem?_append_left hj] at e1
    rw [List.getElem?_append_left (by rw [← t.len]; exact hj)] at e2
    exact kp _ _ (t.at_ j q us e1 e2)
  · have ej : j = ps.length := by
      have := (List.getElem?_eq_some_iff.mp e1).1
      rw [List.length_append] at this
      simp at this
      omega
    subst ej
    rw [List.getElem?_append_right (Nat.le_refl _), Nat.sub_self] at e1
    rw [List.getElem?_append_right (by rw [t.len]; exact Nat.le_refl _), t.len, Nat.sub_self] at e2
    have e5 : p = q := by simpa using e1
    have e6 : vs = us := by simpa using e2
    subst e5 e6
    exact h2
theorem TupsAt.snoc {D p : Addr} {ps : List Addr} {vss : List (List V)} {vs : List V} (t : TupsAt H D ps vss) (hp : H p = none) : TupsAt (upd (upd H p (.tup vs)) D (.lst ((ps ++ [p]).map V.ref))) D (ps ++ [p]) (vss ++ [vs]) := by
  refine tups_snoc t upd_same (by rw [upd_ne (Ne.symm (ne_of_none t.lst hp)), upd_same]) (fun q us e => ?_)
  have h1 : q ≠ D := ne_of e t.lst (by intro z; cases z)
  rw [upd_ne h1, upd_ne (ne_of_none e hp)]
  exact e
theorem TupsAt.keep {D : Addr} {ps : List Addr} {vss : List (List V)} (t : TupsAt H D ps vss) (s : Same H H') : TupsAt H' D ps vss := ⟨s _ _ t.lst, t.len, fun j p vs e1 e2 => s _ _ (t.at_ j p vs e1 e2)⟩
end
end SB

set_option Elab.async false
set_option linter.all false
set_option maxRecDepth 100000
set_option maxHeartbeats 2000000
namespace SB
open PySem L2
def notTup : HO → Bool
  | .tup _ => false | .frz _ _ => false | _ => true
structure GA where
  g : Addr
  dg : Addr
  pl : Addr
  ps : List Addr
structure DA where
  d : Addr
  dd : Addr
  l : Addr
  lb : Addr
  was : List (Addr × Addr)
  gas : List GA
def DA.foot (a : DA) : List Addr := a.d :: a.l :: a.lb :: (a.was.map (·.1) ++ (a.gas.map (·.g) ++ a.gas.map (·.pl)))
structure DLe (a a' : DA) : Prop where
  d : a'.d = a.d
  gs : ∃ r, a'.gas.map (·.g) = a.gas.map (·.g) ++ r
theorem DLe.refl (a : DA) : DLe a a := ⟨rfl, [], by simp⟩
theorem DLe.trans {a b c : DA} (x : DLe a b) (y : DLe b c) : DLe a c := by
  obtain ⟨x1, r, x2⟩ := x
  obtain ⟨y1, r', y2⟩ := y
  exact ⟨y1.trans x1, r ++ r', by rw [y2, x2, List.append_assoc]⟩
def puV (x : Int × Int) : List V := [.int x.1, .int x.2]
def goA (gas : List GA) : Option (Option Nat) → Option Addr
  | some (some i) => (gas[i]?).map (·.g)
  | _ => none
structure DevAt (K : PySem.W.Frag) (H : Hp) (a : DA) (ks : List Wk) (took : Bool) (g : GH) : Prop where
  ob : H a.d = some (.ins (cDevice K) a.dd (dvF ⟨a.l, took, a.lb⟩))
  lst : H a.l = some (.lst (a.was.map fun p => V.ref p.1))
  bg : H a.lb = some (.lst ((a.gas.drop g.nb).map fun x => V.ref x.g))
  wk : ∀ (j : Nat) (x : Addr × Addr) (k : Wk), a.was[j]? = some x → ks[j]? = some k → H x.1 = some (.ins (cWork K) x.2 (woF (k.wo (goA a.gas g.cur[j]?))))
  go : ∀ (i : Nat) (x : GA) (e : Go), a.gas[i]? = some x → g.G[i]? = some e → H x.g = some (.ins (cGoing K) x.dg (ggF ⟨(e.n : Int), e.hand, x.pl⟩)) ∧ TupsAt H x.pl x.ps (e.pu.map puV)
  len : a.was.length = ks.length
  glen : a.gas.length = g.G.length
  co : GOk ks g
  nw : (a.was.map (·.1)).Nodup
  ng : (a.gas.map (·.g)).Nodup
  nl : (a.l :: a.lb :: a.gas.map (·.pl)).Nodup
def WkOk (n : Nat) (k : Wk) : Prop := 0 < k.block ∧ (∀ i, k.mark = some i → 0 ≤ i ∧ i < n) ∧ ∀ f, k.follow = some f → 0 ≤ f
def isOn (ks : List Wk) (n : Int) : Bool := match ks[n.toNat]? with
  | some k => k.on
  | none => false
def takes (ms : List Bool) (wanted took : Bool) (k : Wk) : Bool := k.on && (!k.held ms && k.may wanted took)
def devMove (ks : List Wk) (took wanted : Bool) (ms : List Bool) (ws : List Int) : List Wk × Bool × List Int × Option (Int × Str × Int × Int) :=
  match ks.findIdx? (takes ms wanted took) with
  | none => (ks, false, ws, none)
  | some j => match ks[j]? with
    | none => (ks, false, ws, none)
    | some k => ((if (k.move ws).1.on = true then ks.set j (k.move ws).1 else match (k.move ws).1.follow with
        | none => ks.set j (k.move ws).1
        | some f => (ks.set j (k.move ws).1).modify f.toNat Wk.start), true, (k.move ws).2.1, some ((j : Int), (k.move ws).2.2))
def devG (ks : List Wk) (took wanted : Bool) (ms : List Bool) (ws : List Int) (when : Int) (g : GH) : GH := match ks.findIdx? (takes ms wanted took) with
  | none => g
  | some j => match ks[j]? with
    | none => g
    | some k => if (k.move ws).1.on = true then g.move j k when ws else match (k.move ws).1.follow with
        | none => g.move j k when ws
        | some f => (g.move j k when ws).start f.toNat
theorem at_ref {was : List (Addr × Addr)} {n : Int} {p : Addr × Addr} (h0 : 0 ≤ n) (h : was[n.toNat]? = some p) : atI (was.map fun p => V.ref p.1) n = some (.ref p.1) := by
  unfold atI ixN
  have h1 : n.toNat < was.length := (List.getElem?_eq_some_iff.mp h).1
  rw [if_pos h0, List.length_map, if_pos (by omega)]
  show (was.map _)[n.toNat]? = _
  rw [List.getElem?_map, h]
  rfl
theorem fs_ne {fs fs' : List (Str × V)} {f : Str} {v : V} (h : fs.lookup f = none) (h' : fs'.lookup f = some v) : fs ≠ fs' := fun z => by rw [z, h'] at h; cases h
theorem dv_no_begin (k : Dv) : (dvF k).lookup ("begin" : Str) = none := by kernel_rfl
theorem gg_no_begin (k : Gg) : (ggF k).lookup ("begin" : Str) = none := by kernel_rfl
theorem gg_no_works (k : Gg) : (ggF k).lookup ("works" : Str) = none := by kernel_rfl
theorem ins_ne_ins {H : Hp} {p q C dx C' dx' : Addr} {fs fs' : List (Str × V)} (h : H p = some (.ins C dx fs)) (h' : H q = some (.ins C' dx' fs')) (n : fs ≠ fs') : p ≠ q := fun z => by
  rw [z, h'] at h
  exact n (HO.ins.inj (Option.some.inj h)).2.2.symm
theorem lst_ne_ins {H : Hp} {p q : Addr} {xs : List V} {C dx : Addr} {fs : List (Str × V)} (h : H p = some (.lst xs)) (h' : H q = some (.ins C dx fs)) : p ≠ q := ne_of h h' (by intro z; cases z)
theorem ins_ne_lst {H : Hp} {p q : Addr} {xs : List V} {C dx : Addr} {fs : List (Str × V)} (h' : H q = some (.ins C dx fs)) (h : H p = some (.lst xs)) : q ≠ p := ne_of h' h (by intro z; cases z)
theorem map_set_id {α β : Type} {f : α → β} {l : List α} {i : Nat} {x y : α} (h : l[i]? = some x) (e : f y = f x) : (l.set i y).map f = l.map f := by
  rw [List.map_set, e]
  exact set_same (by rw [List.getElem?_map, h]; rfl)
theorem gas_g {l : List GA} {i : Nat} {y : GA} {ps : List Addr} (h : l[i]? = some y) : (l.set i { y with ps := ps }).map (·.g) = l.map (·.g) := map_set_id h rfl
theorem gas_pl {l : List GA} {i : Nat} {y : GA} {ps : List Addr} (h : l[i]? = some y) : (l.set i { y with ps := ps }).map (·.pl) = l.map (·.pl) := map_set_id h rfl
theorem gas_ref {l : List GA} {i : Nat} {y : GA} {ps : List Addr} (h : l[i]? = some y) : (l.set i { y with ps := ps }).map (fun x => V.ref x.g) = l.map (fun x => V.ref x.g) := map_set_id h rfl
section
variable {P : Program} {w : World} {K : PySem.W.Frag} {mg : Str → Option Value} {base : Heap}
variable {H H' : Hp} {a : DA} {ks : List Wk} {took : Bool} {g : GH}
theorem mem_of_map {α : Type} {f : α → Addr} {l : List α} {i : Nat} {x : α} (h : l[i]? = some x) : f x ∈ l.map f := List.mem_map.mpr ⟨x, List.mem_of_getElem? h, rfl⟩
theorem DA.inW {j : Nat} {x : Addr × Addr} (h : a.was[j]? = some x) : x.1 ∈ a.foot := by
  unfold DA.foot
  simp only [List.mem_cons, List.mem_append]
  exact .inr (.inr (.inr (.inl (mem_of_map (f := fun p : Addr × Addr => p.1) h))))
theorem DA.inG {j : Nat} {x : GA} (h : a.gas[j]? = some x) : x.g ∈ a.foot := by
  unfold DA.foot
  simp only [List.mem_cons, List.mem_append]
  exact .inr (.inr (.inr (.inr (.inl (mem_of_map (f := fun p : GA => p.g) h)))))
theorem DA.inP {j : Nat} {x : GA} (h : a.gas[j]? = some x) : x.pl ∈ a.foot := by
  unfold DA.foot
  simp only [List.mem_cons, List.mem_append]
  exact .inr (.inr (.inr (.inr (.inr (mem_of_map (f := fun p : GA => p.pl) h)))))
theorem DA.inD : a.d ∈ a.foot := by unfold DA.foot; simp
theorem DA.inL : a.l ∈ a.foot := by unfold DA.foot; simp
theorem DA.inB : a.lb ∈ a.foot := by unfold DA.foot; simp
theorem DevAt.get (D : DevAt K H a ks took g) {j : Nat} {k : Wk} (h : ks[j]? = some k) : ∃ x, a.was[j]? = some x ∧ H x.1 = some (.ins (cWork K) x.2 (woF (k.wo (goA a.gas g.cur[j]?)))) := by
  have h1 : j < ks.length := (List.getElem?_eq_some_iff.mp h).1
  have h2 : j < a.was.length := by rw [D.len]; exact h1
  exact ⟨a.was[j], List.getElem?_eq_getElem h2, D.wk j _ k (List.getElem?_eq_getElem h2) h⟩
theorem DevAt.getG (D : DevAt K H a ks took g) {i : Nat} {e : Go} (h : g.G[i]? = some e) : ∃ x, a.gas[i]? = some x ∧ H x.g = some (.ins (cGoing K) x.dg (ggF ⟨(e.n : Int), e.hand, x.pl⟩)) ∧ TupsAt H x.pl x.ps (e.pu.map puV) := by
  have h1 : i < g.G.length := (List.getElem?_eq_some_iff.mp h).1
  have h2 : i < a.gas.length := by rw [D.glen]; exact h1
  exact ⟨a.gas[i], List.getElem?_eq_getElem h2, D.go i _ e (List.getElem?_eq_getElem h2) h⟩
theorem DevAt.getW (D : DevAt K H a ks took g) {j : Nat} {x : Addr × Addr} (h : a.was[j]? = some x) : ∃ k, ks[j]? = some k ∧ H x.1 = some (.ins (cWork K) x.2 (woF (k.wo (goA a.gas g.cur[j]?)))) := by
  have h2 : j < ks.length := by rw [← D.len]; exact (List.getElem?_eq_some_iff.mp h).1
  exact ⟨_, List.getElem?_eq_getElem h2, D.wk j _ _ h (List.getElem?_eq_getElem h2)⟩
theorem DevAt.getA (D : DevAt K H a ks took g) {i : Nat} {x : GA} (h : a.gas[i]? = some x) : ∃ e, g.G[i]? = some e ∧ H x.g = some (.ins (cGoing K) x.dg (ggF ⟨(e.n : Int), e.hand, x.pl⟩)) ∧ TupsAt H x.pl x.ps (e.pu.map puV) := by
  have h2 : i < g.G.length := by rw [← D.glen]; exact (List.getElem?_eq_some_iff.mp h).1
  exact ⟨_, List.getElem?_eq_getElem h2, D.go i _ _ h (List.getElem?_eq_getElem h2)⟩
theorem DevAt.inF (D : DevAt K H a ks took g) : ∀ b ∈ a.foot, ∃ u, H b = some u ∧ notTup u = true := fun b hb => by
  unfold DA.foot at hb
  simp only [List.mem_cons, List.mem_append] at hb
  rcases hb with rfl | rfl | rfl | hb | hb | hb
  · exact ⟨_, D.ob, rfl⟩
  · exact ⟨_, D.lst, rfl⟩
  · exact ⟨_, D.bg, rfl⟩
  · obtain ⟨pr, hpr, e⟩ := List.mem_map.mp hb
    obtain ⟨i, hi, ei⟩ := List.mem_iff_getElem.mp hpr
    obtain ⟨k, _, h⟩ := D.getW (List.getElem?_eq_getElem hi)
    rw [ei, e] at h
    exact ⟨_, h, rfl⟩
  · obtain ⟨pr, hpr, e⟩ := List.mem_map.mp hb
    obtain ⟨i, hi, ei⟩ := List.mem_iff_getElem.mp hpr
    obtain ⟨k, _, h, _⟩ := D.getA (List.getElem?_eq_getElem hi)
    rw [ei, e] at h
    exact ⟨_, h, rfl⟩
  · obtain ⟨pr, hpr, e⟩ := List.mem_map.mp hb
    obtain ⟨i, hi, ei⟩ := List.mem_iff_getElem.mp hpr
    obtain ⟨k, _, _, h⟩ := D.getA (List.getElem?_eq_getElem hi)
    have h := h.lst
    rw [ei, e] at h
    exact ⟨_, h, rfl⟩
theorem TupsAt.stay {D : Addr} {ps : List Addr} {vss : List (List V)} {as : List Addr} (t : TupsAt H D ps vss) (k : Kept as H H') (h : D ∉ as) (hn : ∀ b ∈ as, ∃ u, H b = some u ∧ notTup u = true) : TupsAt H' D ps vss :=
  ⟨k _ _ t.lst h, t.len, fun j p vs e1 e2 => k _ _ (t.at_ j p vs e1 e2) fun z => by
    obtain ⟨u, hu, hu2⟩ := hn p z
    rw [t.at_ j p vs e1 e2] at hu
    cases hu
    cases hu2⟩
theorem DevAt.stay (D : DevAt K H a ks took g) {as : List Addr} (k : Kept as H H') (h : ∀ b ∈ a.foot, b ∉ as) (hn : ∀ b ∈ as, ∃ u, H b = some u ∧ notTup u = true) : DevAt K H' a ks took g :=
  ⟨k _ _ D.ob (h _ DA.inD), k _ _ D.lst (h _ DA.inL), k _ _ D.bg (h _ DA.inB), fun j x y e1 e2 => k _ _ (D.wk j x y e1 e2) (h _ (DA.inW e1)), fun i x e e1 e2 => ⟨k _ _ (D.go i x e e1 e2).1 (h _ (DA.inG e1)), (D.go i x e e1 e2).2.stay k (h _ (DA.inP e1)) hn⟩, D.len, D.glen, D.co, D.nw, D.ng, D.nl⟩
theorem DevAt.same (D : DevAt K H a ks took g) (s : Same H H') : DevAt K H' a ks took g := D.stay (Kept.same (as := []) s) (by simp) (by simp)
theorem DevAt.upd (D : DevAt K H a ks took g) {p : Addr} {u o : HO} (hp : H p = some u) (hu : notTup u = true) (h : p ∉ a.foot) : DevAt K (L2.upd H p o) a ks took g :=
  D.stay (as := [p]) ((Kept.refl _ H).put (by simp)) (fun b hb z => h (by
    have e : b = p := by simpa using z
    rw [← e]
    exact hb)) (fun b hb => by
    have e : b = p := by simpa using hb
    rw [e]
    exact ⟨_, hp, hu⟩)
theorem nd_at {α : Type} {f : α → Addr} {l : List α} (nd : (l.map f).Nodup) {i j : Nat} {x y : α} (h1 : l[i]? = some x) (h2 : l[j]? = some y) (e : f x = f y) : i = j :=
  nd_ix nd (by rw [List.getElem?_map, h1]; rfl) (by rw [List.getElem?_map, h2, e]; rfl)
theorem DevAt.dW (D : DevAt K H a ks took g) {j : Nat} {x : Addr × Addr} (h : a.was[j]? = some x) : a.d ≠ x.1 := by
  obtain ⟨k, _, e⟩ := D.getW h
  exact ins_ne_ins D.ob e (fs_ne (dv_no_begin _) (wo_begin _))
theorem DevAt.dG (D : DevAt K H a ks took g) {j : Nat} {x : GA} (h : a.gas[j]? = some x) : a.d ≠ x.g := by
  obtain ⟨k, _, e, _⟩ := D.getA h
  exact Ne.symm (ins_ne_ins e D.ob (fs_ne (gg_no_works _) (dv_works _)))
theorem DevAt.wG (D : DevAt K H a ks took g) {i j : Nat} {x : GA} {y : Addr × Addr} (h : a.gas[i]? = some x) (h' : a.was[j]? = some y) : x.g ≠ y.1 := by
  obtain ⟨_, _, e, _⟩ := D.getA h
  obtain ⟨_, _, e'⟩ := D.getW h'
  exact ins_ne_ins e e' (fs_ne (gg_no_begin _) (wo_begin _))
theorem DevAt.lbne (D : DevAt K H a ks took g) : a.lb ≠ a.l := fun z => by
  have := (List.nodup_cons.mp D.nl).1
  rw [← z] at this
  exact this List.mem_cons_self
theorem DevAt.plL (D : DevAt K H a ks took g) {j : Nat} {x : GA} (h : a.gas[j]? = some x) : x.pl ≠ a.l := fun z => (List.nodup_cons.mp D.nl).1 (List.mem_cons_of_mem _ (by rw [← z]; exact mem_of_map (f := fun p : GA => p.pl) h))
theorem DevAt.plB (D : DevAt K H a ks took g) {j : Nat} {x : GA} (h : a.gas[j]? = some x) : x.pl ≠ a.lb := fun z => (List.nodup_cons.mp (List.nodup_cons.mp D.nl).2).1 (by rw [← z]; exact mem_of_map (f := fun p : GA => p.pl) h)
theorem DevAt.npl (D : DevAt K H a ks took g) : (a.gas.map (·.pl)).Nodup := (List.nodup_cons.mp (List.nodup_cons.mp D.nl).2).2
theorem DevAt.setTook (D : DevAt K H a ks took g) {b : Bool} : DevAt K (L2.upd H a.d (.ins (cDevice K) a.dd (dvF ⟨a.l, b, a.lb⟩))) a ks b g := by
  have hl : a.l ≠ a.d := lst_ne_ins D.lst D.ob
  have hb : a.lb ≠ a.d := lst_ne_ins D.bg D.ob
  refine ⟨upd_same, by rw [upd_ne hl]; exact D.lst, by rw [upd_ne hb]; exact D.bg, fun j x k e1 e2 => ?_, fun i x e e1 e2 => ⟨?_, ?_⟩, D.len, D.glen, D.co, D.nw, D.ng, D.nl⟩
  · rw [upd_ne (Ne.symm (D.dW e1))]
    exact D.wk j x k e1 e2
  · rw [upd_ne (Ne.symm (D.dG e1))]
    exact (D.go i x e e1 e2).1
  · have t := (D.go i x e e1 e2).2
    refine t.stay (as := [a.d]) ((Kept.refl _ H).put (by simp)) (by simpa using lst_ne_ins t.lst D.ob) (fun b hb => ?_)
    have e : b = a.d := by simpa using hb
    rw [e]
    exact ⟨_, D.ob, rfl⟩
theorem DevAt.woken (D : DevAt K H a ks took g) {b : Addr} (hb : H b = none) : DevAt K (L2.upd (L2.upd H b (.lst [])) a.d (.ins (cDevice K) a.dd (dvF ⟨a.l, took, b⟩))) { a with lb := b } ks took { g with nb := g.G.length } := by
  have D1 : DevAt K (L2.upd H b (.lst [])) a ks took g := D.same (Same.new (Same.refl H) hb)
  have hl : a.l ≠ a.d := lst_ne_ins D.lst D.ob
  have bd : b ≠ a.d := Ne.symm (ne_of_none D.ob hb)
  have D2 : DevAt K (L2.upd (L2.upd H b (.lst [])) a.d (.ins (cDevice K) a.dd (dvF ⟨a.l, took, a.lb⟩))) a ks took g := D1.setTook
  have rd : ∀ {p : Addr} {o : HO}, p ≠ a.d → L2.upd H b (.lst []) p = some o → L2.upd (L2.upd H b (.lst [])) a.d (.ins (cDevice K) a.dd (dvF ⟨a.l, took, b⟩)) p = some o := fun hp h => by rw [upd_ne hp]; exact h
  have ed : a.gas.drop g.G.length = [] := by rw [← D.glen]; exact List.drop_length
  refine ⟨upd_same, rd hl D1.lst, ?_, fun j x k e1 e2 => rd (Ne.symm (D.dW e1)) (D1.wk j x k e1 e2), fun i x e e1 e2 => ⟨rd (Ne.symm (D.dG e1)) (D1.go i x e e1 e2).1, ?_⟩, D.len, D.glen, ⟨D.co.clen, D.co.on, D.co.off, D.co.mb, Nat.le_refl _⟩, D.nw, D.ng, ?_⟩
  · show L2.upd (L2.upd H b (.lst [])) a.d _ b = some (.lst ((a.gas.drop g.G.length).map _))
    rw [upd_ne bd, upd_same, ed]
    rfl
  · have t := (D1.go i x e e1 e2).2
    refine t.stay (as := [a.d]) ((Kept.refl _ _).put (by simp)) (by simpa using lst_ne_ins t.lst D1.ob) (fun b hb => ?_)
    have e : b = a.d := by simpa using hb
    rw [e]
    exact ⟨_, D1.ob, rfl⟩
  · have n1 := List.nodup_cons.mp D.nl
    have n2 := List.nodup_cons.mp n1.2
    refine List.nodup_cons.mpr ⟨fun z => ?_, List.nodup_cons.mpr ⟨fun z => ?_, n2.2⟩⟩
    · rcases List.mem_cons.mp z with z | z
      · exact (ne_of_none D.lst hb) z
      · exact n1.1 (List.mem_cons_of_mem _ z)
    · have z' : b ∈ a.gas.map (·.pl) := z
      obtain ⟨pr, hpr, e⟩ := List.mem_map.mp z'
      obtain ⟨i, hi, ei⟩ := List.mem_iff_getElem.mp hpr
      obtain ⟨_, _, _, h⟩ := D.getA (List.getElem?_eq_getElem hi)
      have h := h.lst
      rw [ei, e, hb] at h
      cases h
theorem goA_app {gas : List GA} {x : GA} {o : Option (Option Nat)} (h : ∀ i, o = some (some i) → i < gas.length) : goA (gas ++ [x]) o = goA gas o := by
  cases o with
  | none => rfl
  | some o =>
    cases o with
    | none => rfl
    | some i =>
      show ((gas ++ [x])[i]?).map _ = (gas[i]?).map _
      rw [List.getElem?_append_left (h i rfl)]
theorem goA_set {gas : List GA} {x y : GA} {i : Nat} {o : Option (Option Nat)} (h : gas[i]? = some x) (e : y.g = x.g) : goA (gas.set i y) o = goA gas o := by
  cases o with
  | none => rfl
  | some o =>
    cases o with
    | none => rfl
    | some j =>
      show ((gas.set i y)[j]?).map _ = (gas[j]?).map _
      by_cases z : j = i
      · subst z
        rw [gset_self h, h]
        show some y.g = some x.g
        rw [e]
      · rw [gset_ne z]
theorem cur_lt (D : DevAt K H a ks took g) {j i : Nat} {k : Wk} (h : ks[j]? = some k) (hc : g.cur[j]? = some (some i)) : i < a.gas.length := by
  obtain ⟨_, e, he, _⟩ := D.co.on j k i h hc
  rw [D.glen]
  exact (List.getElem?_eq_some_iff.mp he).1
theorem DevAt.started (D : DevAt K H a ks took g) {n : Nat} {x : Addr × Addr} {k : Wk} {p dp q : Addr} (hc : g.cur[n]? = some none) (hx : a.was[n]? = some x) (hk : ks[n]? = some k) (np : H p = none) (nq : H q = none) (pq : p ≠ q)
    (h1 : H' p = some (.ins (cGoing K) dp (ggF ⟨(n : Int), none, q⟩))) (h2 : H' q = some (.lst [])) (h3 : H' x.1 = some (.ins (cWork K) x.2 (woF (k.wo (some p))))) (h4 : H' a.lb = some (.lst (((a.gas.drop g.nb).map fun x => V.ref x.g) ++ [.ref p])))
    (kp : Kept [x.1, a.lb] H H') : DevAt K H' { a with gas := a.gas ++ [⟨p, dp, q, []⟩] } (ks.modify n Wk.start) took (g.start n) := by
  have co := D.co.start n
  have hx2 := D.wk n x k hx hk
  have nt : ∀ b ∈ [x.1, a.lb], ∃ u, H b = some u ∧ notTup u = true := fun b hb => by
    have e : b = x.1 ∨ b = a.lb := by simpa using hb
    rcases e with rfl | rfl
    · exact ⟨_, hx2, rfl⟩
    · exact ⟨_, D.bg, rfl⟩
  have kk : ∀ {b : Addr} {o : HO}, H b = some o → b ≠ x.1 → b ≠ a.lb → H' b = some o := fun h n1 n2 => kp _ _ h (by simp [n1, n2])
  rw [modify_set hk]
  rw [modify_set hk] at co
  rw [start_off hc] at co ⊢
  have ek : k.start.wo (some p) = k.wo (some p) := by
    unfold Wk.start
    split <;> rfl
  have ld : (a.gas ++ [⟨p, dp, q, []⟩] : List GA).drop g.nb = a.gas.drop g.nb ++ [⟨p, dp, q, []⟩] := by
    rw [List.drop_append_of_le_length (by rw [D.glen]; exact D.co.nbl)]
  refine ⟨kk D.ob (D.dW hx) (ins_ne_lst D.ob D.bg), kk D.lst (lst_ne_ins D.lst hx2) (Ne.symm D.lbne), ?_, fun j y k' e1 e2 => ?_, fun i y e e1 e2 => ?_, by show a.was.length = _; rw [List.length_set]; exact D.len, by simp [D.glen], co, D.nw, ?_, ?_⟩
  · show H' a.lb = some (.lst (((a.gas ++ [(⟨p, dp, q, []⟩ : GA)]).drop g.nb).map fun x => V.ref x.g))
    rw [ld, List.map_append]
    exact h4
  · show H' y.1 = some (.ins (cWork K) y.2 (woF (k'.wo (goA (a.gas ++ [⟨p, dp, q, []⟩]) (g.cur.set n (some g.G.length))[j]?))))
    by_cases hj : j = n
    · subst hj
      have e1' : a.was[j]? = some y := e1
      rw [hx] at e1'
      cases e1'
      rw [gset_self hk] at e2
      cases e2
      rw [gset_self hc, ← D.glen]
      show H' x.1 = some (.ins (cWork K) x.2 (woF (k.start.wo (((a.gas ++ [⟨p, dp, q, []⟩])[a.gas.length]?).map (·.g)))))
      rw [gend]
      show H' x.1 = some (.ins (cWork K) x.2 (woF (k.start.wo (some p))))
      rw [ek]
      exact h3
    · rw [gset_ne hj] at e2
      rw [gset_ne hj, goA_app (fun i hi => cur_lt D e2 hi)]
      have e3 := D.wk j y k' e1 e2
      exact kk e3 (fun z => hj (nd_at (f := fun p : Addr × Addr => p.1) D.nw e1 hx z)) (ins_ne_lst e3 D.bg)
  · by_cases hi : i < a.gas.length
    · have e1' : a.gas[i]? = some y := by
        have e1'' : (a.gas ++ [(⟨p, dp, q, []⟩ : GA)])[i]? = some y := e1
        rw [List.getElem?_append_left hi] at e1''
        exact e1''
      have e2' : g.G[i]? = some e := by
        have e2'' : (g.G ++ [(⟨n, none, []⟩ : Go)])[i]? = some e := e2
        rw [List.getElem?_append_left (by rw [← D.glen]; exact hi)] at e2''
        exact e2''
      obtain ⟨o1, o2⟩ := D.go i y e e1' e2'
      exact ⟨kk o1 (D.wG e1' hx) (ins_ne_lst o1 D.bg), o2.stay kp (by simp [lst_ne_ins o2.lst hx2, D.plB e1']) nt⟩
    · have e1'' : (a.gas ++ [(⟨p, dp, q, []⟩ : GA)])[i]? = some y := e1
      have ei : i = a.gas.length := by
        have := (List.getElem?_eq_some_iff.mp e1'').1
        rw [List.length_append] at this
        simp at this
        omega
      subst ei
      rw [gend] at e1''
      cases e1''
      have e2'' : (g.G ++ [(⟨n, none, []⟩ : Go)])[a.gas.length]? = some e := e2
      rw [D.glen, gend] at e2''
      cases e2''
      exact ⟨h1, h2, rfl, fun j t vs z => by simp at z⟩
  · show ((a.gas ++ [(⟨p, dp, q, []⟩ : GA)]).map (·.g)).Nodup
    rw [List.map_append]
    refine List.nodup_append.mpr ⟨D.ng, by simp, fun u hu b hb z => ?_⟩
    have eb : b = p := by simpa using hb
    subst eb
    subst z
    obtain ⟨pr, hpr, e⟩ := List.mem_map.mp hu
    obtain ⟨i, hi, ei⟩ := List.mem_iff_getElem.mp hpr
    obtain ⟨_, _, h, _⟩ := D.getA (List.getElem?_eq_getElem hi)
    rw [ei, e, np] at h
    cases h
  · have e : (a.l :: a.lb :: (a.gas ++ [(⟨p, dp, q, []⟩ : GA)]).map (·.pl)) = (a.l :: a.lb :: a.gas.map (·.pl)) ++ [q] := by simp
    show (a.l :: a.lb :: (a.gas ++ [(⟨p, dp, q, []⟩ : GA)]).map (·.pl)).Nodup
    rw [e]
    refine List.nodup_append.mpr ⟨D.nl, by simp, fun u hu b hb z => ?_⟩
    have eb : b = q := by simpa using hb
    subst eb
    subst z
    simp only [List.mem_cons] at hu
    rcases hu with rfl | rfl | hu
    · rw [D.lst] at nq; cases nq
    · rw [D.bg] at nq; cases nq
    · obtain ⟨pr, hpr, e⟩ := List.mem_map.mp hu
      obtain ⟨i, hi, ei⟩ := List.mem_iff_getElem.mp hpr
      obtain ⟨_, _, _, h⟩ := D.getA (List.getElem?_eq_getElem hi)
      have h := h.lst
      rw [ei, e, nq] at h
      cases h
theorem DevAt.onAt (D : DevAt K H a ks took g) {j : Nat} {k : Wk} (hk : ks[j]? = some k) (ho : k.on = true) : ∃ (i : Nat) (e : Go) (x : Addr × Addr) (y : GA), g.cur[j]? = some (some i) ∧ g.G[i]? = some e ∧ a.was[j]? = some x ∧ a.gas[i]? = some y ∧ e.n = j ∧ e.hand = k.hand ∧ (e.pu.length : Int) = k.laid ∧ k.laid < k.many ∧
    H x.1 = some (.ins (cWork K) x.2 (woF (k.wo (some y.g)))) ∧ H y.g = some (.ins (cGoing K) y.dg (ggF ⟨(j : Int), k.hand, y.pl⟩)) ∧ TupsAt H y.pl y.ps (e.pu.map puV) := by
  have hj : j < g.cur.length := by rw [D.co.clen]; exact (List.getElem?_eq_some_iff.mp hk).1
  have hc := List.getElem?_eq_getElem hj
  cases e : g.cur[j] with
  | none =>
    rw [e] at hc
    rw [(D.co.off j k hk hc).1] at ho
    cases ho
  | some i =>
    rw [e] at hc
    obtain ⟨_, e, e1, e2, e3, e4, e5⟩ := D.co.on j k i hk hc
    obtain ⟨x, x1, x2⟩ := D.get hk
    obtain ⟨y, y1, y2, y3⟩ := D.getG e1
    rw [hc] at x2
    have eg : goA a.gas (some (some i)) = some y.g := by
      show (a.gas[i]?).map _ = _
      rw [y1]
      rfl
    rw [eg] at x2
    rw [e2, e3] at y2
    exact ⟨i, e, x, y, hc, e1, x1, y1, e2, e3, e4, e5, x2, y2, y3⟩
theorem DevAt.fetched (D : DevAt K H a ks took g) {j i : Nat} {k : Wk} {e : Go} {y : GA} {p : Addr} {ws : List Int} {when : Int} (hk : ks[j]? = some k) (hn : k.hand = none) (hc : g.cur[j]? = some (some i)) (he : g.G[i]? = some e) (en : e.n = j) (hy : a.gas[i]? = some y)
    (f : FetchPost K H H' p y.g y.dg y.pl (j : Int) k ws) : DevAt K H' a (ks.set j (k.move ws).1) took (g.move j k when ws) := by
  have co := D.co.move (ws := ws) (when := when) hk hc
  obtain ⟨f1, f2, f3, f4⟩ := f
  obtain ⟨hy2, hy3⟩ := D.go i y e hy he
  have nt : ∀ b ∈ [y.g], ∃ u, H b = some u ∧ notTup u = true := fun b hb => by
    have e : b = y.g := by simpa using hb
    rw [e]
    exact ⟨_, hy2, rfl⟩
  have kk : ∀ {b : Addr} {o : HO}, H b = some o → b ≠ y.g → H' b = some o := fun h n1 => f4 _ _ h (by simp [n1])
  rw [move_eq hc he] at co ⊢
  unfold Wk.move at co ⊢
  rw [hn] at co ⊢
  dsimp only at co ⊢
  refine ⟨kk D.ob (D.dG hy), kk D.lst (lst_ne_ins D.lst hy2), kk D.bg (lst_ne_ins D.bg hy2), fun j' x k' e1 e2 => ?_, fun i' x e' e1 e2 => ?_, by rw [List.length_set]; exact D.len, by rw [List.length_set]; exact D.glen, co, D.nw, D.ng, D.nl⟩
  · have key : ∀ k0, ks[j']? = some k0 → k0.wo (goA a.gas g.cur[j']?) = k'.wo (goA a.gas g.cur[j']?) → H' x.1 = some (.ins (cWork K) x.2 (woF (k'.wo (goA a.gas g.cur[j']?)))) := fun k0 h0 hw => by
      rw [← hw]
      exact kk (D.wk j' x k0 e1 h0) (Ne.symm (D.wG hy e1))
    by_cases hj : j' = j
    · subst hj
      rw [gset_self hk] at e2
      cases e2
      exact key k hk rfl
    · rw [gset_ne hj] at e2
      exact key k' e2 rfl
  · by_cases hi : i' = i
    · subst hi
      rw [gset_self he] at e2
      cases e2
      rw [hy] at e1
      cases e1
      exact ⟨by rw [f3, en], hy3.stay f4 (by simpa using lst_ne_ins hy3.lst hy2) nt⟩
    · rw [gset_ne hi] at e2
      obtain ⟨o1, o2⟩ := D.go i' x e' e1 e2
      exact ⟨kk o1 (fun z => hi (nd_at (f := fun p : GA => p.g) D.ng e1 hy z)), o2.stay f4 (by simpa using lst_ne_ins o2.lst hy2) nt⟩
theorem DevAt.laid (D : DevAt K H a ks took g) {j i : Nat} {k : Wk} {e : Go} {x : Addr × Addr} {y : GA} {p t l : Addr} {ws : List Int} {when v : Int} {os : List V} (hk : ks[j]? = some k) (hn : k.hand = some v) (hc : g.cur[j]? = some (some i)) (he : g.G[i]? = some e) (en : e.n = j) (hx : a.was[j]? = some x) (hy : a.gas[i]? = some y)
    (hl : H l = some (.lst os)) (nl : l ∉ a.foot) (f : LayPost K H H' p t x.1 x.2 y.g y.dg y.pl l (j : Int) when k (y.ps.map V.ref) ws v) :
    DevAt K H' { a with gas := a.gas.set i { y with ps := y.ps ++ [t] } } (ks.set j (k.move ws).1) took (g.move j k when ws) := by
  have co := D.co.move (ws := ws) (when := when) hk hc
  obtain ⟨f1, f2, f3, f4, f5, f6, f7, f8, f9⟩ := f
  obtain ⟨hy2, hy3⟩ := D.go i y e hy he
  have hx2 := D.wk j x k hx hk
  have nt : ∀ b ∈ [x.1, y.g, y.pl, l], ∃ u, H b = some u ∧ notTup u = true := fun b hb => by
    simp only [List.mem_cons] at hb
    rcases hb with rfl | rfl | rfl | rfl | hb
    · exact ⟨_, hx2, rfl⟩
    · exact ⟨_, hy2, rfl⟩
    · exact ⟨_, hy3.lst, rfl⟩
    · exact ⟨_, hl, rfl⟩
    · cases hb
  have kk : ∀ {b : Addr} {o : HO}, H b = some o → b ∈ a.foot → b ≠ x.1 → b ≠ y.g → b ≠ y.pl → H' b = some o := fun h hf n1 n2 n3 => f9 _ _ h (by
    have n4 : _ ≠ l := fun z => nl (by rw [← z]; exact hf)
    simp [n1, n2, n3, n4])
  rw [move_eq hc he] at co ⊢
  unfold Wk.move at co ⊢
  rw [hn] at co ⊢
  dsimp only at co ⊢
  have eg : ∀ o, goA (a.gas.set i { y with ps := y.ps ++ [t] }) o = goA a.gas o := fun o => goA_set hy rfl
  refine ⟨kk D.ob DA.inD (D.dW hx) (D.dG hy) (ins_ne_lst D.ob hy3.lst), kk D.lst DA.inL (lst_ne_ins D.lst hx2) (lst_ne_ins D.lst hy2) (Ne.symm (D.plL hy)), ?_, fun j' z k' e1 e2 => ?_, fun i' z e' e1 e2 => ?_, by rw [List.length_set]; exact D.len, by rw [List.length_set, List.length_set]; exact D.glen, co, D.nw, ?_, ?_⟩
  · have e5 : ((a.gas.set i { y with ps := y.ps ++ [t] }).drop g.nb).map (fun x => V.ref x.g) = (a.gas.drop g.nb).map (fun x => V.ref x.g) := by
      rw [List.map_drop, List.map_drop, gas_ref hy]
    show H' a.lb = some (.lst (((a.gas.set i { y with ps := y.ps ++ [t] }).drop g.nb).map fun x => V.ref x.g))
    rw [e5]
    exact kk D.bg DA.inB (lst_ne_ins D.bg hx2) (lst_ne_ins D.bg hy2) (Ne.symm (D.plB hy))
  · show H' z.1 = some (.ins (cWork K) z.2 (woF (k'.wo (goA (a.gas.set i { y with ps := y.ps ++ [t] }) (if k.laid + 1 < k.many then g.cur else g.cur.set j none)[j']?))))
    rw [eg]
    by_cases hj : j' = j
    · subst hj
      rw [gset_self hk] at e2
      cases e2
      rw [hx] at e1
      cases e1
      have ego : goA a.gas (if k.laid + 1 < k.many then g.cur else g.cur.set j' none)[j']? = (if k.laid + 1 < k.many then some y.g else none) := by
        by_cases c : k.laid + 1 < k.many
        · rw [if_pos c, if_pos c, hc]
          show (a.gas[i]?).map _ = _
          rw [hy]
          rfl
        · rw [if_neg c, if_neg c, gset_self hc]
          rfl
      rw [ego]
      exact f7
    · rw [gset_ne hj] at e2
      have ec : (if k.laid + 1 < k.many then g.cur else g.cur.set j none)[j']? = g.cur[j']? := by
        by_cases c : k.laid + 1 < k.many
        · rw [if_pos c]
        · rw [if_neg c, gset_ne hj]
      rw [ec]
      have e3 := D.wk j' z k' e1 e2
      exact kk e3 (DA.inW e1) (fun u => hj (nd_at (f := fun p : Addr × Addr => p.1) D.nw e1 hx u)) (Ne.symm (D.wG hy e1)) (ins_ne_lst e3 hy3.lst)
  · by_cases hi : i' = i
    · subst hi
      rw [gset_self he] at e2
      cases e2
      have e1' : (a.gas.set i' { y with ps := y.ps ++ [t] })[i']? = some z := e1
      rw [gset_self hy] at e1'
      cases e1'
      refine ⟨by show H' y.g = some (.ins (cGoing K) y.dg (ggF ⟨(e.n : Int), none, y.pl⟩)); rw [f6, en], ?_⟩
      show TupsAt H' y.pl (y.ps ++ [t]) ((e.pu ++ [(when, (k.goal + k.laid) % ws.length)]).map puV)
      rw [List.map_append]
      refine tups_snoc hy3 (by rw [f5, List.map_append]; rfl) f4 (fun u us hu => f9 _ _ hu fun hb => ?_)
      obtain ⟨o, ho, ho2⟩ := nt u hb
      rw [hu] at ho
      cases ho
      cases ho2
    · rw [gset_ne hi] at e2
      have e1' : (a.gas.set i { y with ps := y.ps ++ [t] })[i']? = some z := e1
      rw [gset_ne hi] at e1'
      obtain ⟨o1, o2⟩ := D.go i' z e' e1' e2
      have npl : z.pl ≠ y.pl := fun u => hi (nd_at (f := fun p : GA => p.pl) D.npl e1' hy u)
      have nll : z.pl ≠ l := fun u => nl (by rw [← u]; exact DA.inP e1')
      exact ⟨kk o1 (DA.inG e1') (D.wG e1' hx) (fun u => hi (nd_at (f := fun p : GA => p.g) D.ng e1' hy u)) (ins_ne_lst o1 hy3.lst), o2.stay f9 (by simp [lst_ne_ins o2.lst hx2, lst_ne_ins o2.lst hy2, npl, nll]) nt⟩
  · show ((a.gas.set i { y with ps := y.ps ++ [t] }).map (·.g)).Nodup
    rw [gas_g hy]
    exact D.ng
  · show (a.l :: a.lb :: (a.gas.set i { y with ps := y.ps ++ [t] }).map (·.pl)).Nodup
    rw [gas_pl hy]
    exact D.nl
theorem foot_set {i : Nat} {y : GA} {t : Addr} (hy : a.gas[i]? = some y) : ({ a with gas := a.gas.set i { y with ps := y.ps ++ [t] } } : DA).foot = a.foot := by
  unfold DA.foot
  show a.d :: a.l :: a.lb :: (a.was.map (·.1) ++ ((a.gas.set i { y with ps := y.ps ++ [t] }).map (·.g) ++ (a.gas.set i { y with ps := y.ps ++ [t] }).map (·.pl))) = _
  rw [gas_g hy, gas_pl hy]
theorem foot_new {x : GA} {b : Addr} (h : b ∈ ({ a with gas := a.gas ++ [x] } : DA).foot) : b ∈ a.foot ∨ b = x.g ∨ b = x.pl := by
  unfold DA.foot at h ⊢
  simp only [List.mem_cons, List.mem_append, List.map_append, List.map_cons, List.map_nil, List.not_mem_nil, or_false] at h ⊢
  rcases h with h | h | h | h | (h | h) | (h | h)
  · exact .inl (.inl h)
  · exact .inl (.inr (.inl h))
  · exact .inl (.inr (.inr (.inl h)))
  · exact .inl (.inr (.inr (.inr (.inl h))))
  · exact .inl (.inr (.inr (.inr (.inr (.inl h)))))
  · exact .inr (.inl h)
  · exact .inl (.inr (.inr (.inr (.inr (.inr h)))))
  · exact .inr (.inr h)
end
end SB

set_option Elab.async false
set_option linter.all false
set_option maxRecDepth 100000
set_option maxHeartbeats 2000000
namespace SB
open PySem L2
section
variable {P : Program} {w : World} {K : PySem.W.Frag} {mg : Str → Option Value} {base : Heap}
variable {H H' : Hp} {a : DA} {ks : List Wk} {took : Bool} {g : GH}
theorem DevAt.onV (D : DevAt K H a ks took g) {j : Nat} {k : Wk} (hk : ks[j]? = some k) : (!decide (oA (goA a.gas g.cur[j]?) = V.non)) = k.on := by
  have hj : j < g.cur.length := by rw [D.co.clen]; exact (List.getElem?_eq_some_iff.mp hk).1
  have hc := List.getElem?_eq_getElem hj
  cases e : g.cur[j] with
  | none =>
    rw [e] at hc
    rw [hc, (D.co.off j k hk hc).1]
    rfl
  | some i =>
    rw [e] at hc
    obtain ⟨o, e, e1, _⟩ := D.co.on j k i hk hc
    obtain ⟨y, y1, _⟩ := D.getG e1
    have eg : goA a.gas (some (some i)) = some y.g := by
      show (a.gas[i]?).map _ = _
      rw [y1]
      rfl
    rw [hc, eg, o]
    rfl
def sp_Device_is_on (K : PySem.W.Frag) : Sp := fun vs H Q _ => ∃ (a : DA) (ks : List Wk) (took : Bool) (g : GH) (n : Int), vs = [.ref a.d, .int n] ∧ DevAt K H a ks took g ∧ 0 ≤ n ∧ Q (.bl (isOn ks n)) H
def sp_Device_start (K : PySem.W.Frag) : Sp := fun vs H Q _ => ∃ (a : DA) (ks : List Wk) (took : Bool) (g : GH) (n : Int), vs = [.ref a.d, .int n] ∧ DevAt K H a ks took g ∧ 0 ≤ n ∧ g.G.length < g.nb + 1000 ∧
  ∀ H' a', DLe a a' → DevAt K H' a' (ks.modify n.toNat Wk.start) took (g.start n.toNat) → Step a.foot H a'.foot H' → Q .non H'
def startAll (ks : List Wk) (ns : List Int) : List Wk := ns.foldl (fun ks n => ks.modify n.toNat Wk.start) ks
def GH.startAll (g : GH) (ns : List Int) : GH := ns.foldl (fun g n => g.start n.toNat) g
theorem GH.start_len {g : GH} {n : Nat} : (g.start n).G.length ≤ g.G.length + 1 ∧ (g.start n).nb = g.nb := by
  unfold GH.start
  split
  · simp
  · simp
theorem GH.startAll_len : ∀ {ns : List Int} {g : GH}, (g.startAll ns).G.length ≤ g.G.length + ns.length ∧ (g.startAll ns).nb = g.nb
  | [], g => ⟨Nat.le_refl _, rfl⟩
  | n :: r, g => by
    have h1 := GH.start_len (g := g) (n := n.toNat)
    have h2 := GH.startAll_len (ns := r) (g := g.start n.toNat)
    show ((g.start n.toNat).startAll r).G.length ≤ g.G.length + (r.length + 1) ∧ ((g.start n.toNat).startAll r).nb = g.nb
    omega
def sp_Device_wake (K : PySem.W.Frag) : Sp := fun vs H Q _ => ∃ (a : DA) (ks : List Wk) (took : Bool) (g : GH) (al : Addr) (ns : List Int), vs = [.ref a.d, .ref al] ∧ DevAt K H a ks took g ∧ H al = some (.lst (ns.map V.int)) ∧ al ∉ a.foot ∧ ns.length ≤ 8 ∧ (∀ n ∈ ns, 0 ≤ n) ∧
  ∀ H' a', DLe a a' → DevAt K H' a' (startAll ks ns) took (({ g with nb := g.G.length } : GH).startAll ns) → Step a.foot H a'.foot H' → Q .non H'
def optN : Option Nat → V
  | none => .non
  | some j => .int (j : Int)
def sp_Device_taker (K : PySem.W.Frag) : Sp := fun vs H Q _ => ∃ (a : DA) (m : Addr) (ks : List Wk) (took wanted : Bool) (g : GH) (ms : List Bool), vs = [.ref a.d, .bl wanted, .ref m] ∧ DevAt K H a ks took g ∧ H m = some (.lst (ms.map V.bl)) ∧ (∀ k ∈ ks, WkOk ms.length k) ∧
  ∀ H', Same H H' → Q (optN (ks.findIdx? (takes ms wanted took))) H'
theorem may_eq {k : Wk} {o : Option Addr} {b c : Bool} : mayK (k.wo o).greed b c = k.may b c := rfl
def Told (H H' : Hp) (v : V) : Option (Int × Str × Int × Int) → Prop
  | none => v = .non
  | some (j, z, a, x) => ∃ p, v = .ref p ∧ H p = none ∧ H' p = some (.tup [.int j, .str z, .int a, .int x])
def sp_Device_move (K : PySem.W.Frag) : Sp := fun vs H Q _ => ∃ (a : DA) (m lw : Addr) (ks : List Wk) (took wanted : Bool) (g : GH) (ms : List Bool) (ws : List Int) (when : Int), vs = [.ref a.d, .int when, .bl wanted, .ref m, .ref lw] ∧ DevAt K H a ks took g ∧
  H m = some (.lst (ms.map V.bl)) ∧ H lw = some (.lst (ws.map V.int)) ∧ 0 < ws.length ∧ lw ∉ a.foot ∧ (∀ k ∈ ks, WkOk ms.length k) ∧ g.G.length < g.nb + 1000 ∧
  ∀ H' a' v, DLe a a' → DevAt K H' a' (devMove ks took wanted ms ws).1 (devMove ks took wanted ms ws).2.1 (devG ks took wanted ms ws when g) → H' lw = some (.lst ((devMove ks took wanted ms ws).2.2.1.map V.int)) → Stp [lw] a.foot H a'.foot H' → Told H H' v (devMove ks took wanted ms ws).2.2.2 → Q v H'
theorem GH.move_len {g : GH} {j : Nat} {k : Wk} {when : Int} {ws : List Int} : (g.move j k when ws).G.length = g.G.length ∧ (g.move j k when ws).nb = g.nb := by
  unfold GH.move
  split
  · split
    · split <;> simp
    · simp
  · simp
end
end SB

set_option Elab.async false
set_option linter.all false
set_option maxRecDepth 100000
set_option maxHeartbeats 2000000
namespace SB
open PySem L2
section
variable {P : Program} {w : World} {K : PySem.W.Frag} {mg : Str → Option Value} {base : Heap}
variable {H H' : Hp} {a : DA} {ks : List Wk} {took : Bool} {g : GH}
def Wk.vs (k : Wk) : List V := [.int k.begin, .int k.goal, .int k.many, .int k.block, .str k.greed, oV k.mark, oV k.follow]
def Wk.fresh (k : Wk) : Wk := { k with on := false, laid := 0, hand := none }
structure WorksAt (K : PySem.W.Frag) (H : Hp) (wl : Addr) (ts : List Addr) (ks : List Wk) : Prop where
  lst : SqL K H wl (ts.map V.ref)
  len : ts.length = ks.length
  at_ : ∀ (j : Nat) (t : Addr) (k : Wk), ts[j]? = some t → ks[j]? = some k → SqT K H t k.vs
theorem WorksAt.same {wl : Addr} {ts : List Addr} (W : WorksAt K H wl ts ks) (s : Same H H') : WorksAt K H' wl ts ks := ⟨s.seq W.lst, W.len, fun j t k h1 h2 => Same.tup s (W.at_ j t k h1 h2)⟩
def GH.none (n : Nat) : GH := ⟨[], List.replicate n Option.none, 0⟩
def sp_Device_init (K : PySem.W.Frag) : Sp := fun vs H Q _ => ∃ (d dd wl : Addr) (ts : List Addr) (ks : List Wk), vs = [.ref d, .ref wl] ∧ H d = some (.ins (cDevice K) dd []) ∧ WorksAt K H wl ts ks ∧ ts.length ≤ 6 ∧ (∀ k ∈ ks, 0 < k.many ∧ k.many ≤ 16) ∧
  ∀ H' a, a.d = d → DevAt K H' a (ks.map Wk.fresh) false (GH.none ks.length) → (∀ b ∈ a.foot, b ≠ d → H b = none) → Kept [d] H H' → (∀ b, H' b = none → H b = none) → Q .non H'
def onFrom : Nat → List Wk → List (Nat × Wk)
  | _, [] => []
  | i, k :: r => if k.on = true then (i, k) :: onFrom (i + 1) r else onFrom (i + 1) r
theorem onFrom_app : ∀ (i : Nat) (xs ys : List Wk), onFrom i (xs ++ ys) = onFrom i xs ++ onFrom (i + xs.length) ys
  | i, [], ys => by simp [onFrom]
  | i, k :: r, ys => by
    show (if k.on = true then _ :: onFrom (i + 1) (r ++ ys) else onFrom (i + 1) (r ++ ys)) = (if k.on = true then _ :: onFrom (i + 1) r else onFrom (i + 1) r) ++ _
    rw [onFrom_app (i + 1) r ys]
    have e : i + 1 + r.length = i + (k :: r).length := by simp; omega
    rw [e]
    split <;> rfl
theorem onFrom_len : ∀ (i : Nat) (ks : List Wk), (onFrom i ks).length ≤ ks.length
  | _, [] => by simp [onFrom]
  | i, k :: r => by
    have := onFrom_len (i + 1) r
    show (if k.on = true then _ :: onFrom (i + 1) r else onFrom (i + 1) r).length ≤ _
    split
    · simp only [List.length_cons]; omega
    · simp only [List.length_cons]; omega
theorem onFrom_mem : ∀ (i : Nat) (ks : List Wk) (j : Nat) (k : Wk), (j, k) ∈ onFrom i ks → i ≤ j ∧ ks[j - i]? = some k ∧ k.on = true
  | i, [], j, k, h => by simp [onFrom] at h
  | i, k0 :: r, j, k, h => by
    have h' : (j, k) ∈ (if k0.on = true then (i, k0) :: onFrom (i + 1) r else onFrom (i + 1) r) := h
    have rc2 : (j, k) ∈ onFrom (i + 1) r → i ≤ j ∧ (k0 :: r)[j - i]? = some k ∧ k.on = true := fun h2 => by
      obtain ⟨a1, a2, a3⟩ := onFrom_mem (i + 1) r j k h2
      have e : j - i = (j - (i + 1)) + 1 := by omega
      exact ⟨by omega, by rw [e]; exact a2, a3⟩
    split at h'
    · rename_i ho
      rcases List.mem_cons.mp h' with z | z
      · cases z
        exact ⟨Nat.le_refl _, by simp, ho⟩
      · exact rc2 z
    · exact rc2 h'
theorem onFrom_take {ks : List Wk} {i : Nat} {k : Wk} (hk : ks[i]? = some k) : onFrom 0 (ks.take (i + 1)) = onFrom 0 (ks.take i) ++ (if k.on = true then [(i, k)] else []) := by
  have et : ks.take (i + 1) = ks.take i ++ [k] := by
    rw [List.take_add_one, hk]
    rfl
  have hi : i < ks.length := (List.getElem?_eq_some_iff.mp hk).1
  rw [et, onFrom_app]
  have el : 0 + (ks.take i).length = i := by rw [List.length_take]; omega
  rw [el]
  rfl
def sp_Device_numbers_on (K : PySem.W.Frag) : Sp := fun vs H Q _ => ∃ (a : DA) (ks : List Wk) (took : Bool) (g : GH), vs = [.ref a.d] ∧ DevAt K H a ks took g ∧ ks.length ≤ 6 ∧
  ∀ H' D, H D = none → H' D = some (.lst ((onFrom 0 ks).map fun p => V.int (p.1 : Int))) → Same H H' → Q (.ref D) H'
def goFrom : Nat → List Wk → List (Int × Int × Bool)
  | _, [] => []
  | i, k :: r => if k.on = true then ((i : Int), k.laid, k.hand.isSome) :: goFrom (i + 1) r else goFrom (i + 1) r
theorem goFrom_app : ∀ (i : Nat) (xs ys : List Wk), goFrom i (xs ++ ys) = goFrom i xs ++ goFrom (i + xs.length) ys
  | i, [], ys => by simp [goFrom]
  | i, k :: r, ys => by
    show (if k.on = true then _ :: goFrom (i + 1) (r ++ ys) else goFrom (i + 1) (r ++ ys)) = (if k.on = true then _ :: goFrom (i + 1) r else goFrom (i + 1) r) ++ _
    rw [goFrom_app (i + 1) r ys]
    have e : i + 1 + r.length = i + (k :: r).length := by simp; omega
    rw [e]
    split <;> rfl
def goV (g : Int × Int × Bool) : List V := [.int g.1, .int g.2.1, .bl g.2.2]
theorem goFrom_on : ∀ (i : Nat) (ks : List Wk), goFrom i ks = (onFrom i ks).map fun p => ((p.1 : Int), p.2.laid, p.2.hand.isSome)
  | _, [] => rfl
  | i, k :: r => by
    show (if k.on = true then _ :: goFrom (i + 1) r else goFrom (i + 1) r) = (if k.on = true then (i, k) :: onFrom (i + 1) r else onFrom (i + 1) r).map _
    rw [goFrom_on (i + 1) r]
    split <;> rfl
theorem goFrom_len : ∀ (i : Nat) (ks : List Wk), (goFrom i ks).length ≤ ks.length
  | _, [] => by simp [goFrom]
  | i, k :: r => by
    have := goFrom_len (i + 1) r
    show (if k.on = true then _ :: goFrom (i + 1) r else goFrom (i + 1) r).length ≤ _
    split
    · simp only [List.length_cons]; omega
    · simp only [List.length_cons]; omega
theorem oV_non {o : Option Int} : (!decide (oV o = V.non)) = o.isSome := by
  cases o <;> rfl
theorem goFromA_len : ∀ (i : Nat) (ks : List Wk), (goFrom i ks).length = (onFrom i ks).length := fun i ks => by rw [goFrom_on, List.length_map]
def sp_Device_shown_on (K : PySem.W.Frag) : Sp := fun vs H Q _ => ∃ (a : DA) (ks : List Wk) (took : Bool) (g : GH), vs = [.ref a.d] ∧ DevAt K H a ks took g ∧ ks.length ≤ 6 ∧
  ∀ H' D ps, H D = none → TupsAt H' D ps ((goFrom 0 ks).map goV) → Same H H' → Q (.ref D) H'
end
end SB

set_option Elab.async false
set_option linter.all false
set_option maxRecDepth 100000
set_option maxHeartbeats 2000000
namespace SB
open PySem L2
inductive Row where
  | set (r n : Int) | add (r s : Int) | less (r s : Int) | get (r a : Int) | put (a r : Int) | getx (r s : Int) | putx (s r : Int) | pair (r a : Int) | lay (a r : Int) | go (t : Int) | iff (r t : Int)
  | ask (w : Int) | done (r w : Int) | mark (m : Int) | clear (m : Int) | rest (n : Int) | fin
def Row.vs : Row → List V
  | .set r n => [.str "set", .int r, .int n] | .add r s => [.str "add", .int r, .int s] | .less r s => [.str "less", .int r, .int s] | .get r a => [.str "get", .int r, .int a] | .put a r => [.str "put", .int a, .int r]
  | .getx r s => [.str "getx", .int r, .int s] | .putx s r => [.str "putx", .int s, .int r] | .pair r a => [.str "pair", .int r, .int a] | .lay a r => [.str "lay", .int a, .int r] | .go t => [.str "go", .int t]
  | .iff r t => [.str "if", .int r, .int t] | .ask w => [.str "ask", .int w] | .done r w => [.str "done", .int r, .int w] | .mark m => [.str "mark", .int m] | .clear m => [.str "clear", .int m] | .rest n => [.str "rest", .int n] | .fin => [.str "end"]
def rg (lo hi x : Int) : Prop := lo ≤ x ∧ x ≤ hi
def Row.ok (n : Nat) : Row → Prop
  | .set r x => rg 0 3 r ∧ rg 0 999 x | .add r s => rg 0 3 r ∧ rg 0 3 s | .less r s => rg 0 3 r ∧ rg 0 3 s | .get r a => rg 0 3 r ∧ rg 0 31 a | .put a r => rg 0 31 a ∧ rg 0 3 r | .getx r s => rg 0 3 r ∧ rg 0 3 s | .putx s r => rg 0 3 s ∧ rg 0 3 r
  | .pair r a => rg 0 2 r ∧ rg 0 31 a | .lay a r => rg 0 31 a ∧ rg 0 2 r | .go t => 0 ≤ t ∧ t < n | .iff r t => rg 0 3 r ∧ 0 ≤ t ∧ t < n | .ask w => rg 0 5 w | .done r w => rg 0 3 r ∧ rg 0 5 w | .mark m => rg 0 2 m | .clear m => rg 0 2 m | .rest x => rg 1 9 x | .fin => True
def Row.okW (n : Nat) : Row → Prop
  | .set r x => rg 0 3 r ∧ rg 0 999 x | .add r s => rg 0 3 r ∧ rg 0 3 s | .less r s => rg 0 3 r ∧ rg 0 3 s | .get r a => rg 0 3 r ∧ rg 0 31 a | .put a r => rg 0 31 a ∧ rg 0 3 r | .getx r s => rg 0 3 r ∧ rg 0 3 s | .putx s r => rg 0 3 s ∧ rg 0 3 r
  | .pair r a => rg 0 2 r ∧ rg 0 31 a | .lay a r => rg 0 31 a ∧ rg 0 2 r | .go t => 0 ≤ t ∧ t < n | .iff r t => rg 0 3 r ∧ 0 ≤ t ∧ t < n | .ask w => rg 0 5 w | .done r w => rg 0 3 r ∧ rg 0 5 w | .mark m => rg 0 2 m | .clear m => rg 0 2 m | .rest x => rg 1 40 x | .fin => True
theorem Row.ok.w {r : Row} {n : Nat} (h : r.ok n) : r.okW n := by
  cases r with
  | rest x => exact ⟨h.1, Int.le_trans h.2 (by decide)⟩
  | _ => exact h
def Row.beats : Row → Int
  | .rest n => n | .pair _ _ => 2 | .lay _ _ => 2 | _ => 1
def Row.word (spent : Int) (cells : List Int) : Row → Option (Str × Int × Int)
  | .get r a => some ("get", a, r) | .put a r => some ("put", a, r) | .getx r s => some ("get", cells.getD s.toNat 0, r) | .putx s r => some ("put", cells.getD s.toNat 0, r)
  | .pair r a => some ("get", a + spent, r + spent) | .lay a r => some ("put", a + spent, r + spent) | _ => none
section
variable {K : PySem.W.Frag} {σ : L2.St} {H : Hp} {D : Ends} {t : Addr} {xs : List V} {n i j : Nat} {tq : TPats} {b : TS} {u : TMc} {x y : Str} {a c : V} {tp : TPat}
theorem iteP {c A B : Prop} [Decidable c] (hc : c) (h : A) : if c then A else B := by rw [if_pos hc]; exact h
theorem tm_len (ht : SqT K H t xs) (hn : xs.length ≠ n) (q : u (.ref t) D σ H) : tmCons (tpSeq K n tq) b u (.ref t) D σ H := ⟨t, xs, rfl, ht, by rw [if_neg hn]; exact q⟩
theorem tm_str (ht : SqT K H t (.str y :: xs)) (hn : xs.length + 1 = n) (hy : y ≠ x) (q : u (.ref t) D σ H) : tmCons (tpSeq K n (tqCons (tpStr x) tq)) b u (.ref t) D σ H :=
  ⟨t, _, rfl, ht, by
    rw [if_pos (by simpa using hn)]
    refine ⟨_, _, rfl, rfl, ?_⟩
    rw [if_neg (fun z => hy (V.str.inj z))]
    exact q⟩
theorem tm_hit0 (ht : SqT K H t [.str x]) (q : b D σ H) : tmCons (tpSeq K 1 (tqCons (tpStr x) tqNil)) b u (.ref t) D σ H :=
  ⟨t, _, rfl, ht, by
    refine iteP rfl ?_
    refine ⟨_, _, rfl, rfl, ?_⟩
    rw [if_pos rfl]
    exact q⟩
theorem tm_hit1 (ht : SqT K H t [.str x, a]) (q : b D (bindAll [(i, a)] σ) H) : tmCons (tpSeq K 2 (tqCons (tpStr x) (tqCons (tpName i) tqNil))) b u (.ref t) D σ H :=
  ⟨t, _, rfl, ht, by
    refine iteP rfl ?_
    refine ⟨_, _, rfl, rfl, ?_⟩
    rw [if_pos rfl]
    exact ⟨_, _, rfl, q⟩⟩
theorem tm_hit2 (ht : SqT K H t [.str x, a, c]) (q : b D (bindAll [(i, a), (j, c)] σ) H) : tmCons (tpSeq K 3 (tqCons (tpStr x) (tqCons (tpName i) (tqCons (tpName j) tqNil)))) b u (.ref t) D σ H :=
  ⟨t, _, rfl, ht, by
    refine iteP rfl ?_
    refine ⟨_, _, rfl, rfl, ?_⟩
    rw [if_pos rfl]
    exact ⟨_, _, rfl, _, _, rfl, q⟩⟩
end
section
variable {P : Program} {w : World} {K : PySem.W.Frag} {mg : Str → Option Value} {base : Heap}
def sp_beats_of (K : PySem.W.Frag) : Sp := fun vs H Q _ => ∃ (t : Addr) (r : Row), vs = [.ref t] ∧ SqT K H t r.vs ∧ ∀ H', Same H H' → Q (.int r.beats) H'
def Wtd (H H' : Hp) (v : V) : Option (Str × Int × Int) → Prop
  | none => v = .non
  | some (z, p, c) => ∃ q, v = .ref q ∧ H q = none ∧ H' q = some (.tup [.str z, .int p, .int c])
def sp_word_of (K : PySem.W.Frag) : Sp := fun vs H Q _ => ∃ (t c : Addr) (r : Row) (n : Nat) (spent : Int) (cells : List Int), vs = [.ref t, .int spent, .ref c] ∧ SqT K H t r.vs ∧ r.okW n ∧ H c = some (.lst (cells.map V.int)) ∧ cells.length = 4 ∧
  ∀ H' v, Same H H' → Wtd H H' v (r.word spent cells) → Q v H'
end
end SB

set_option Elab.async false
set_option linter.all false
set_option maxRecDepth 100000
set_option maxHeartbeats 2000000
namespace SB
open PySem L2
structure MS where
  cells : List Int
  marks : List Bool
  row : Int
  spent : Int
structure ProgAt (K : PySem.W.Frag) (H : Hp) (pa : Addr) (rs : List Addr) (prog : List Row) : Prop where
  tup : SqT K H pa (rs.map V.ref)
  len : rs.length = prog.length
  at_ : ∀ (j : Nat) (t : Addr) (r : Row), rs[j]? = some t → prog[j]? = some r → SqT K H t r.vs
structure McAt (K : PySem.W.Frag) (H : Hp) (m dm pa : Addr) (rs : List Addr) (prog : List Row) (c k : Addr) (S : MS) : Prop where
  ob : H m = some (.ins (cMachine K) dm (mcF ⟨pa, c, k, S.row, S.spent⟩))
  pr : ProgAt K H pa rs prog
  hc : H c = some (.lst (S.cells.map V.int))
  hk : H k = some (.lst (S.marks.map V.bl))
  ck : c ≠ k
structure MOk (prog : List Row) (S : MS) : Prop where
  c4 : S.cells.length = 4
  m3 : S.marks.length = 3
  row0 : 0 ≤ S.row
  rown : S.row ≤ prog.length
  sp0 : 0 ≤ S.spent
  sp1 : ∀ r, prog[S.row.toNat]? = some r → S.spent < r.beats
  rows : ∀ r ∈ prog, r.okW prog.length
def wantedOf (prog : List Row) (S : MS) : Option (Str × Int × Int) := match prog[S.row.toNat]? with
  | none => none
  | some r => r.word S.spent S.cells
theorem tup_keep {K : PySem.W.Frag} {H H' : Hp} {as : List Addr} {a : Addr} {xs : List V} (h : SqT K H a xs) (k : Kept as H H') (hn : ∀ b ∈ as, ∃ u, H b = some u ∧ notTup u = true) : SqT K H' a xs := by
  rcases h with (h | ⟨o, h⟩) | h
  · refine .inl (.inl (k _ _ h fun m => ?_))
    obtain ⟨u, e, z⟩ := hn a m
    rw [h] at e
    cases e
    cases z
  · refine .inl (.inr ⟨o, k _ _ h fun m => ?_⟩)
    obtain ⟨u, e, z⟩ := hn a m
    rw [h] at e
    cases e
    cases z
  · exact .inr h
theorem ProgAt.keep {K : PySem.W.Frag} {H H' : Hp} {as : List Addr} {pa : Addr} {rs : List Addr} {prog : List Row} (h : ProgAt K H pa rs prog) (k : Kept as H H') (hn : ∀ b ∈ as, ∃ u, H b = some u ∧ notTup u = true) : ProgAt K H' pa rs prog :=
  ⟨tup_keep h.tup k hn, h.len, fun j t r e1 e2 => tup_keep (h.at_ j t r e1 e2) k hn⟩
theorem ProgAt.same {K : PySem.W.Frag} {H H' : Hp} {pa : Addr} {rs : List Addr} {prog : List Row} (h : ProgAt K H pa rs prog) (s : Same H H') : ProgAt K H' pa rs prog := h.keep (Kept.same (as := []) s) (by simp)
theorem ProgAt.get {K : PySem.W.Frag} {H : Hp} {pa : Addr} {rs : List Addr} {prog : List Row} (h : ProgAt K H pa rs prog) {j : Nat} {r : Row} (e : prog[j]? = some r) : ∃ t, rs[j]? = some t ∧ SqT K H t r.vs := by
  have h1 : j < rs.length := by rw [h.len]; exact (List.getElem?_eq_some_iff.mp e).1
  exact ⟨_, List.getElem?_eq_getElem h1, h.at_ j _ r (List.getElem?_eq_getElem h1) e⟩
theorem at_rf {rs : List Addr} {n : Int} {t : Addr} (h0 : 0 ≤ n) (h : rs[n.toNat]? = some t) : atI (rs.map V.ref) n = some (.ref t) := by
  unfold atI ixN
  have h1 : n.toNat < rs.length := (List.getElem?_eq_some_iff.mp h).1
  rw [if_pos h0, List.length_map, if_pos (by omega)]
  show (rs.map _)[n.toNat]? = _
  rw [List.getElem?_map, h]
  rfl
theorem dec_int' {x y : Int} : decide (V.int x = V.int y) = decide (x = y) := by
  by_cases z : x = y
  · rw [decide_eq_true z, decide_eq_true (by rw [z])]
  · rw [decide_eq_false z, decide_eq_false (fun y => z (V.int.inj y))]
def orS : List Str → TPat
  | [] => tpNo
  | a :: r => tpElse (tpStr a) (orS r)
section
variable {K : PySem.W.Frag} {σ : L2.St} {H : Hp} {D : Ends} {t : Addr} {i j : Nat} {b : TS} {u : TMc} {y : Str} {a c : V}
theorem orS_yes {Q : Bd → Hp → Prop} : ∀ {l : List Str}, y ∈ l → Q (some []) H → orS l (.str y) σ H Q
  | [], h, _ => by cases h
  | x :: r, h, q => by
    refine ⟨rfl, ?_⟩
    by_cases e : y = x
    · rw [if_pos (by rw [e])]
      exact q
    · rw [if_neg (fun z => e (V.str.inj z))]
      exact orS_yes (by
        rcases List.mem_cons.mp h with z | z
        · exact absurd z e
        · exact z) q
theorem orS_no {Q : Bd → Hp → Prop} : ∀ {l : List Str}, y ∉ l → Q none H → orS l (.str y) σ H Q
  | [], _, q => q
  | x :: r, h, q => by
    refine ⟨rfl, ?_⟩
    rw [if_neg (fun z => h (by rw [V.str.inj z]; exact List.mem_cons_self))]
    exact orS_no (fun z => h (List.mem_cons_of_mem _ z)) q
theorem tm_or2 {l : List Str} (ht : SqT K H t [.str y, a, c]) (hy : y ∈ l) (q : b D (bindAll [(i, a), (j, c)] σ) H) : tmCons (tpSeq K 3 (tqCons (tpOr (orS l)) (tqCons (tpName i) (tqCons (tpName j) tqNil)))) b u (.ref t) D σ H :=
  ⟨t, _, rfl, ht, iteP rfl ⟨_, _, rfl, orS_yes hy ⟨_, _, rfl, _, _, rfl, q⟩⟩⟩
theorem tm_or2n {l : List Str} {tq : TPats} {n : Nat} {xs : List V} (ht : SqT K H t (.str y :: xs)) (hn : xs.length + 1 = n) (hy : y ∉ l) (q : u (.ref t) D σ H) : tmCons (tpSeq K n (tqCons (tpOr (orS l)) tq)) b u (.ref t) D σ H :=
  ⟨t, _, rfl, ht, iteP (by simpa using hn) ⟨_, _, rfl, orS_no hy q⟩⟩
end
section
variable {P : Program} {w : World} {K : PySem.W.Frag} {mg : Str → Option Value} {base : Heap}
variable {H H' : Hp} {m dm pa c k : Addr} {rs : List Addr} {prog : List Row} {S : MS}
theorem McAt.same (M : McAt K H m dm pa rs prog c k S) (s : Same H H') : McAt K H' m dm pa rs prog c k S := ⟨s _ _ M.ob, M.pr.same s, s _ _ M.hc, s _ _ M.hk, M.ck⟩
def sp_Machine_ended (K : PySem.W.Frag) : Sp := fun vs H Q _ => ∃ (m dm pa c k : Addr) (rs : List Addr) (prog : List Row) (S : MS), vs = [.ref m] ∧ McAt K H m dm pa rs prog c k S ∧ Q (.bl (decide (S.row = prog.length))) H
def sp_Machine_wanted (K : PySem.W.Frag) : Sp := fun vs H Q _ => ∃ (m dm pa c k : Addr) (rs : List Addr) (prog : List Row) (S : MS), vs = [.ref m] ∧ McAt K H m dm pa rs prog c k S ∧ MOk prog S ∧ ∀ H' v, Same H H' → Wtd H H' v (wantedOf prog S) → Q v H'
def useW (z : Str) (p cl : Int) (cells ws : List Int) : List Int × List Int × Int × Int :=
  if z = "get" then (cells.set cl.toNat (ws.getD (p % ws.length).toNat 0), ws, p % ws.length, ws.getD (p % ws.length).toNat 0)
  else (cells, ws.set (p % ws.length).toNat (cells.getD cl.toNat 0), p % ws.length, cells.getD cl.toNat 0)
def sp_Machine_use_word (K : PySem.W.Frag) : Sp := fun vs H Q _ => ∃ (m dm pa c k wq lw : Addr) (row spent : Int) (cells ws : List Int) (z : Str) (p cl : Int), vs = [.ref m, .ref wq, .ref lw] ∧ H m = some (.ins (cMachine K) dm (mcF ⟨pa, c, k, row, spent⟩)) ∧
  H c = some (.lst (cells.map V.int)) ∧ H lw = some (.lst (ws.map V.int)) ∧ SqT K H wq [.str z, .int p, .int cl] ∧ c ≠ lw ∧ 0 < ws.length ∧ 0 ≤ cl ∧ cl < cells.length ∧
  ∀ H' q, H q = none → H' q = some (.tup [.str z, .int (useW z p cl cells ws).2.2.1, .int (useW z p cl cells ws).2.2.2]) → H' c = some (.lst ((useW z p cl cells ws).1.map V.int)) → H' lw = some (.lst ((useW z p cl cells ws).2.1.map V.int)) → Kept [c, lw] H H' → Q (.ref q) H'
def reck (z : Str) (worth other : Int) (cells : List Int) (ks : List Wk) : Int :=
  if z = "set" then other else if z = "done" then (if isOn ks other = true then 0 else 1) else if z = "add" then (worth + cells.getD other.toNat 0) % 1000 else if worth < cells.getD other.toNat 0 then 1 else 0
def sp_Machine_reckoned (K : PySem.W.Frag) : Sp := fun vs H Q _ => ∃ (m dm pa c k : Addr) (a : DA) (row spent : Int) (cells : List Int) (ks : List Wk) (took : Bool) (g : GH) (z : Str) (worth other : Int), vs = [.ref m, .str z, .int worth, .int other, .ref a.d] ∧
  H m = some (.ins (cMachine K) dm (mcF ⟨pa, c, k, row, spent⟩)) ∧ H c = some (.lst (cells.map V.int)) ∧ DevAt K H a ks took g ∧ 0 ≤ other ∧ (z = "set" ∨ z = "done" ∨ other < cells.length) ∧ Q (.int (reck z worth other cells ks)) H
end
end SB

set_option Elab.async false
set_option linter.all false
set_option maxRecDepth 100000
set_option maxHeartbeats 2000000
namespace SB
open PySem L2
def eff (n : Nat) (S : MS) (ks : List Wk) : Row → MS × List Wk
  | .go t => ({ S with row := t, spent := 0 }, ks)
  | .iff r t => ({ S with row := if S.cells.getD r.toNat 0 = 0 then S.row + 1 else t, spent := 0 }, ks)
  | .fin => ({ S with row := n, spent := 0 }, ks)
  | .ask x => ({ S with row := S.row + 1, spent := 0 }, ks.modify x.toNat Wk.start)
  | .mark x => ({ S with row := S.row + 1, spent := 0, marks := S.marks.set x.toNat true }, ks)
  | .clear x => ({ S with row := S.row + 1, spent := 0, marks := S.marks.set x.toNat false }, ks)
  | .set r x => ({ S with row := S.row + 1, spent := 0, cells := S.cells.set r.toNat (reck "set" (S.cells.getD r.toNat 0) x S.cells ks) }, ks)
  | .add r x => ({ S with row := S.row + 1, spent := 0, cells := S.cells.set r.toNat (reck "add" (S.cells.getD r.toNat 0) x S.cells ks) }, ks)
  | .less r x => ({ S with row := S.row + 1, spent := 0, cells := S.cells.set r.toNat (reck "less" (S.cells.getD r.toNat 0) x S.cells ks) }, ks)
  | .done r x => ({ S with row := S.row + 1, spent := 0, cells := S.cells.set r.toNat (reck "done" (S.cells.getD r.toNat 0) x S.cells ks) }, ks)
  | _ => ({ S with row := S.row + 1, spent := 0 }, ks)
def effG (g : GH) : Row → GH
  | .ask x => g.start x.toNat
  | _ => g
section
variable {P : Program} {w : World} {K : PySem.W.Frag} {mg : Str → Option Value} {base : Heap}
variable {H H' : Hp} {m dm pa c k : Addr} {a a' : DA} {rs : List Addr} {prog : List Row} {S : MS} {ks : List Wk} {took : Bool} {g : GH}
theorem McAt.setM (M : McAt K H m dm pa rs prog c k S) (row spent : Int) : McAt K (upd H m (.ins (cMachine K) dm (mcF ⟨pa, c, k, row, spent⟩))) m dm pa rs prog c k { S with row := row, spent := spent } := by
  have hc : c ≠ m := ne_of M.hc M.ob (by intro z; cases z)
  have hk : k ≠ m := ne_of M.hk M.ob (by intro z; cases z)
  refine ⟨upd_same, M.pr.keep (as := [m]) ((Kept.refl _ H).put (by simp)) (fun b hb => ?_), by rw [upd_ne hc]; exact M.hc, by rw [upd_ne hk]; exact M.hk, M.ck⟩
  have e : b = m := by simpa using hb
  rw [e]
  exact ⟨_, M.ob, rfl⟩
theorem McAt.setC (M : McAt K H m dm pa rs prog c k S) (cells : List Int) : McAt K (upd H c (.lst (cells.map V.int))) m dm pa rs prog c k { S with cells := cells } := by
  have hc : m ≠ c := ne_of M.ob M.hc (by intro z; cases z)
  refine ⟨by rw [upd_ne hc]; exact M.ob, M.pr.keep (as := [c]) ((Kept.refl _ H).put (by simp)) (fun b hb => ?_), upd_same, by rw [upd_ne (Ne.symm M.ck)]; exact M.hk, M.ck⟩
  have e : b = c := by simpa using hb
  rw [e]
  exact ⟨_, M.hc, rfl⟩
theorem McAt.setK (M : McAt K H m dm pa rs prog c k S) (marks : List Bool) : McAt K (upd H k (.lst (marks.map V.bl))) m dm pa rs prog c k { S with marks := marks } := by
  have hc : m ≠ k := ne_of M.ob M.hk (by intro z; cases z)
  refine ⟨by rw [upd_ne hc]; exact M.ob, M.pr.keep (as := [k]) ((Kept.refl _ H).put (by simp)) (fun b hb => ?_), by rw [upd_ne M.ck]; exact M.hc, upd_same, M.ck⟩
  have e : b = k := by simpa using hb
  rw [e]
  exact ⟨_, M.hk, rfl⟩
theorem McAt.stay (M : McAt K H m dm pa rs prog c k S) {as : List Addr} (kp : Kept as H H') (h : ∀ b ∈ [m, c, k], b ∉ as) (hn : ∀ b ∈ as, ∃ u, H b = some u ∧ notTup u = true) : McAt K H' m dm pa rs prog c k S :=
  ⟨kp _ _ M.ob (h m (by simp)), M.pr.keep kp hn, kp _ _ M.hc (h c (by simp)), kp _ _ M.hk (h k (by simp)), M.ck⟩
def sp_Machine_finish (K : PySem.W.Frag) : Sp := fun vs H Q _ => ∃ (m dm pa c k t : Addr) (a : DA) (rs : List Addr) (prog : List Row) (S : MS) (ks : List Wk) (took : Bool) (g : GH) (r : Row), vs = [.ref m, .ref t, .ref a.d] ∧
  McAt K H m dm pa rs prog c k S ∧ DevAt K H a ks took g ∧ (∀ b ∈ [m, c, k], b ∉ a.foot) ∧ SqT K H t r.vs ∧ r.okW prog.length ∧ S.cells.length = 4 ∧ S.marks.length = 3 ∧ g.G.length < g.nb + 1000 ∧
  ∀ H' a', DLe a a' → McAt K H' m dm pa rs prog c k (eff prog.length S ks r).1 → DevAt K H' a' (eff prog.length S ks r).2 took (effG g r) → Stp [m, c, k] a.foot H a'.foot H' → Q .non H'
theorem set_bl {ms : List Bool} {j : Nat} {x : Bool} : (ms.map V.bl).set j (.bl x) = (ms.set j x).map V.bl := by rw [List.map_set]
end
end SB

set_option Elab.async false
set_option linter.all false
set_option maxRecDepth 100000
set_option maxHeartbeats 2000000
namespace SB
open PySem L2
inductive MT where
  | ends | waits | goes | word (z : Str) (a x : Int)
def tick (n : Nat) (S : MS) (ks : List Wk) (r : Row) : MS × List Wk := if S.spent = r.beats then eff n S ks r else (S, ks)
def mstep (prog : List Row) (S : MS) (ks : List Wk) (took : Bool) (ws : List Int) : MS × List Wk × List Int × MT := match prog[S.row.toNat]? with
  | none => (S, ks, ws, .ends)
  | some r => match r.word S.spent S.cells with
    | none => ((tick prog.length { S with spent := S.spent + 1 } ks r).1, (tick prog.length { S with spent := S.spent + 1 } ks r).2, ws, .goes)
    | some (z, p, cl) => if took = true then (S, ks, ws, .waits) else
      ((tick prog.length { S with cells := (useW z p cl S.cells ws).1, spent := S.spent + 1 } ks r).1, (tick prog.length { S with cells := (useW z p cl S.cells ws).1, spent := S.spent + 1 } ks r).2, (useW z p cl S.cells ws).2.1, .word z (useW z p cl S.cells ws).2.2.1 (useW z p cl S.cells ws).2.2.2)
def mstepG (prog : List Row) (S : MS) (took : Bool) (g : GH) : GH := match prog[S.row.toNat]? with
  | none => g
  | some r => match r.word S.spent S.cells with
    | none => if S.spent + 1 = r.beats then effG g r else g
    | some _ => if took = true then g else if S.spent + 1 = r.beats then effG g r else g
def ToldM (H H' : Hp) (v : V) : MT → Prop
  | .ends => v = .str "ends"
  | .waits => v = .str "waits"
  | .goes => v = .str "goes"
  | .word z a x => ∃ q, v = .ref q ∧ H q = none ∧ H' q = some (.tup [.str z, .int a, .int x])
theorem word_cl {r : Row} {n : Nat} {spent : Int} {cells : List Int} {z : Str} {p cl : Int} (ok : r.okW n) (s0 : 0 ≤ spent) (s1 : spent < r.beats) (h : r.word spent cells = some (z, p, cl)) : 0 ≤ cl ∧ cl < 4 := by
  cases r <;> simp [Row.word, Row.beats, Row.okW, rg] at h ok s1 <;> omega
section
variable {P : Program} {w : World} {K : PySem.W.Frag} {mg : Str → Option Value} {base : Heap}
variable {H H' : Hp} {m dm pa c k : Addr} {a a' : DA} {rs : List Addr} {prog : List Row} {S : MS} {ks : List Wk} {took : Bool} {g : GH}
def sp_Machine_step (K : PySem.W.Frag) : Sp := fun vs H Q _ => ∃ (m dm pa c k lw : Addr) (a : DA) (rs : List Addr) (prog : List Row) (S : MS) (ks : List Wk) (took : Bool) (g : GH) (ws : List Int), vs = [.ref m, .ref lw, .ref a.d] ∧
  McAt K H m dm pa rs prog c k S ∧ MOk prog S ∧ DevAt K H a ks took g ∧ (∀ b ∈ [m, c, k], b ∉ a.foot) ∧ H lw = some (.lst (ws.map V.int)) ∧ 0 < ws.length ∧ lw ≠ c ∧ lw ≠ k ∧ lw ∉ a.foot ∧ g.G.length < g.nb + 1000 ∧
  ∀ H' a' v, DLe a a' → McAt K H' m dm pa rs prog c k (mstep prog S ks took ws).1 → DevAt K H' a' (mstep prog S ks took ws).2.1 took (mstepG prog S took g) → H' lw = some (.lst ((mstep prog S ks took ws).2.2.1.map V.int)) → Stp [m, c, k, lw] a.foot H a'.foot H' →
    ToldM H H' v (mstep prog S ks took ws).2.2.2 → Q v H'
theorem Stp.tup {X F F' : List Addr} {H H' : Hp} (s : Stp X F H F' H') (hn : ∀ b ∈ X ++ F, ∃ u, H b = some u ∧ notTup u = true) : ∀ q us, H q = some (.tup us) → H' q = some (.tup us) := fun q us h => s.kp _ _ h fun z => by
  obtain ⟨u, hu, hu2⟩ := hn q z
  rw [h] at hu
  cases hu
  cases hu2
theorem ToldM.keep {H H1 H2 : Hp} {v : V} {y : MT} (t : ToldM H H1 v y) (h : ∀ q us, H1 q = some (.tup us) → H2 q = some (.tup us)) : ToldM H H2 v y := by
  cases y with
  | word z a x =>
    obtain ⟨q, e, h1, h2⟩ := t
    exact ⟨q, e, h1, h _ _ h2⟩
  | _ => exact t
theorem mck_inF (M : McAt K H m dm pa rs prog c k S) (D : DevAt K H a ks took g) : ∀ b ∈ m :: c :: k :: a.foot, ∃ u, H b = some u ∧ notTup u = true := fun b hb => by
  simp only [List.mem_cons] at hb
  rcases hb with rfl | rfl | rfl | hb
  · exact ⟨_, M.ob, rfl⟩
  · exact ⟨_, M.hc, rfl⟩
  · exact ⟨_, M.hk, rfl⟩
  · exact D.inF b hb
def S0 : MS := ⟨[0, 0, 0, 0], [false, false, false], 0, 0⟩
def sp_Machine_init (K : PySem.W.Frag) : Sp := fun vs H Q _ => ∃ (m dm pa : Addr) (rs : List Addr) (prog : List Row), vs = [.ref m, .ref pa] ∧ H m = some (.ins (cMachine K) dm []) ∧ ProgAt K H pa rs prog ∧
  ∀ H' c k, McAt K H' m dm pa rs prog c k S0 → H c = none → H k = none → Kept [m] H H' → Q .non H'
end
end SB

set_option Elab.async false
set_option linter.all false
set_option maxRecDepth 100000
set_option maxHeartbeats 2000000
namespace SB
open PySem L2
def numB (v : V) (lo hi : Int) : Bool := match v with
  | .int i => decide (lo ≤ i) && decide (i ≤ hi)
  | _ => false
theorem sIx1 (n : Nat) : HT.sIx (n + 1) 0 (some 1) = 1 := by
  have := HT.sIx_nat (n + 1) 0 1
  rw [show ((1 : Nat) : Int) = 1 from rfl] at this
  rw [this]
  omega
theorem cut1 (x : V) (xs : List V) : cutV (x :: xs) (some 1) none = xs := by
  unfold cutV
  rw [List.length_cons, sIx1, HT.sIx_none]
  show xs.take (xs.length + 1 - 1) = xs
  rw [Nat.add_sub_cancel, List.take_length]
theorem at0 {α : Type} (x : α) (xs : List α) : atI (x :: xs) 0 = some x := by
  unfold atI ixN
  rw [if_pos (Int.le_refl 0), if_pos (by rw [List.length_cons]; omega)]
  rfl
section
variable {P : Program} {w : World} {K : PySem.W.Frag} {mg : Str → Option Value} {base : Heap}
def sp_is_number (K : PySem.W.Frag) : Sp := fun vs H Q _ => ∃ (v : V) (lo hi : Int) (n : String), vs = [v, .int lo, .int hi] ∧ TyN K H v n ∧ Q (.bl (numB v lo hi)) H
theorem ok_is_number (T : T w K mg) : FnR P w K mg base CX0 1 (He.ga K "is_number") (sp_is_number K) := by
  obtain ⟨fd, F⟩ := T.f_is_number
  refine F.r sc_is_number (fun _ _ _ _ _ _ us hl => match us, hl with | [_, _, _], _ => rfl) (fun vs H Q E h => ?_) (fun cdv A outer s H vs Q E hr h => ?_)
  · obtain ⟨v, lo, hi, n, rfl, _⟩ := h
    rfl
  · obtain ⟨v, lo, hi, n, rfl, hv, k⟩ := h
    refine ⟨_, (pss_one (ps_ret (pe_and (pe_isi (n := "int") rfl T.u_isinstance rfl T.u_int (pv 0)) (pe_and (pe_not (pe_isi (n := "bool") rfl T.u_isinstance rfl T.u_bool (pv 0))) (pe_one (pe_chain op_le op_le (pv 1) (pv 0) (pv 2))))))), ?_⟩
    refine ⟨_, rfl, rfl, _, hv, _, rfl, ?_⟩
    cases hv with
    | int i =>
      refine iteT ⟨_, rfl, rfl, _, .int i, _, rfl, _, rfl, iteT ⟨_, rfl, _, rfl, _, _, rfl, rfl, _, rfl, ?_⟩⟩
      refine ite2 (fun c1 => ?_) (fun c1 => ?_)
      · refine ⟨_, rfl, _, _, rfl, rfl, ?_⟩
        have e : numB (.int i) lo hi = decide (i ≤ hi) := by
          show (decide (lo ≤ i) && decide (i ≤ hi)) = _
          rw [c1, Bool.true_and]
        rw [e] at k
        exact k
      · have e : numB (.int i) lo hi = false := by
          show (decide (lo ≤ i) && decide (i ≤ hi)) = _
          cases z : decide (lo ≤ i) with
          | true => exact absurd z c1
          | false => rfl
        rw [e] at k
        exact k
    | bl b => exact iteT ⟨_, rfl, rfl, _, .bl b, _, rfl, _, rfl, iteF k⟩
    | str x => exact iteF k
    | non => exact iteF k
    | tup h => exact iteF k
    | lst h => exact iteF k
def sp_is_part (K : PySem.W.Frag) : Sp := fun vs H Q _ => ∃ (v : V) (kd : Str) (lo hi : Int) (n : String), vs = [v, .str kd] ∧ Ent K "BOUNDS" kd [.int lo, .int hi] ∧ TyN K H v n ∧ Q (.bl (numB v lo hi)) H
theorem ok_is_part (T : T w K mg) : FnR P w K mg base CX0 2 (He.ga K "is_part") (sp_is_part K) := by
  have F_is_number : FnR P w K mg base CX0 1 _ _ := ok_is_number T
  obtain ⟨es, en, DB⟩ := T.d_BOUNDS
  obtain ⟨fd, F⟩ := T.f_is_part
  refine F.r sc_is_part (fun _ _ _ _ _ _ us hl => match us, hl with | [_, _], _ => rfl) (fun vs H Q E h => ?_) (fun cdv A outer s H vs Q E hr h => ?_)
  · obtain ⟨_, _, _, _, _, rfl, _⟩ := h
    rfl
  · obtain ⟨v, kd, lo, hi, n, rfl, ⟨p, e1, e2⟩, hv, q⟩ := h
    refine ⟨_, (pss_cons (ps_asg (pe_ix ix_kdict (pe_glob (v := .ref (He.ga K "BOUNDS")) rfl T.g_BOUNDS rfl) (pv 1) (fun _ _ => rfl)) (pg_tup rfl (pgs_cons (pg_name (i := 2) sc_is_part.nd rfl (Or.inl rfl)) (pgs_cons (pg_name (i := 3) sc_is_part.nd rfl (Or.inl rfl)) pgs_nil))))
      (pss_one (ps_ret (pe_callR F_is_number (hr.mono (by decide)) rfl T.g_is_number T.k_is_number (pa_cons (pv 0) (pa_cons (pv 2) (pa_cons (pv 3) pa_nil))))))), ?_⟩
    refine ⟨_, rfl, ?_⟩ -- kind
    refine ⟨_, kd, .ref p, rfl, rfl, ⟨es, en, _, DB.at_, DB.lit, e1, rfl⟩, ?_⟩ -- BOUNDS[kind]
    refine ⟨p, _, rfl, e2 _, rfl, _, _, rfl, _, _, rfl, rfl, ?_⟩ -- low, high = BOUNDS[kind]
    refine ⟨_, rfl, _, rfl, _, rfl, ?_⟩
    exact ⟨v, lo, hi, n, rfl, hv, q⟩
def sp_is_one_of (K : PySem.W.Frag) : Sp := fun vs H Q _ => ∃ (v : V) (m : Int) (n : String), vs = [v, .int m] ∧ TyN K H v n ∧ Q (.bl (numB v 0 (m - 1))) H
theorem ok_is_one_of (T : T w K mg) : FnR P w K mg base CX0 2 (He.ga K "is_one_of") (sp_is_one_of K) := by
  have F_is_number : FnR P w K mg base CX0 1 _ _ := ok_is_number T
  obtain ⟨fd, F⟩ := T.f_is_one_of
  refine F.r sc_is_one_of (fun _ _ _ _ _ _ us hl => match us, hl with | [_, _], _ => rfl) (fun vs H Q E h => ?_) (fun cdv A outer s H vs Q E hr h => ?_)
  · obtain ⟨_, _, _, rfl, _⟩ := h
    rfl
  · obtain ⟨v, m, n, rfl, hv, q⟩ := h
    refine ⟨_, (pss_one (ps_ret (pe_callR F_is_number (hr.mono (by decide)) rfl T.g_is_number T.k_is_number (pa_cons (pv 0) (pa_cons pe_int (pa_cons (pe_op op_sub (pv 1) pe_int) pa_nil)))))), ?_⟩
    refine ⟨_, rfl, ?_⟩ -- value
    refine ⟨_, rfl, ?_⟩ -- many
    refine ⟨_, _, rfl, rfl, ?_⟩ -- many - 1
    exact ⟨v, 0, m - 1, n, rfl, hv, q⟩
def Row.nm : Row → Str
  | .set _ _ => "set" | .add _ _ => "add" | .less _ _ => "less" | .get _ _ => "get" | .put _ _ => "put" | .getx _ _ => "getx" | .putx _ _ => "putx" | .pair _ _ => "pair" | .lay _ _ => "lay" | .go _ => "go" | .iff _ _ => "if" | .ask _ => "ask" | .done _ _ => "done" | .mark _ => "mark" | .clear _ => "clear" | .rest _ => "rest" | .fin => "end"
def Row.parts : Row → List (Int × Str)
  | .set r n => [(r, "cell"), (n, "word")] | .add r s => [(r, "cell"), (s, "cell")] | .less r s => [(r, "cell"), (s, "cell")] | .get r a => [(r, "cell"), (a, "address")] | .put a r => [(a, "address"), (r, "cell")] | .getx r s => [(r, "cell"), (s, "cell")] | .putx s r => [(s, "cell"), (r, "cell")]
  | .pair r a => [(r, "first"), (a, "address")] | .lay a r => [(a, "address"), (r, "first")] | .go t => [(t, "row")] | .iff r t => [(r, "cell"), (t, "row")] | .ask w => [(w, "work")] | .done r w => [(r, "cell"), (w, "work")] | .mark m => [(m, "mark")] | .clear m => [(m, "mark")] | .rest n => [(n, "rest")] | .fin => []
theorem Row.vs_eq (r : Row) : r.vs = .str r.nm :: r.parts.map fun p => V.int p.1 := by cases r <;> rfl
theorem Row.form (T : T w K mg) (r : Row) : Ent K "FORMS" r.nm (r.parts.map fun p => V.str p.2) := by
  cases r
  case set => exact T.e_FORMS_set
  case add => exact T.e_FORMS_add
  case less => exact T.e_FORMS_less
  case get => exact T.e_FORMS_get
  case put => exact T.e_FORMS_put
  case getx => exact T.e_FORMS_getx
  case putx => exact T.e_FORMS_putx
  case pair => exact T.e_FORMS_pair
  case lay => exact T.e_FORMS_lay
  case go => exact T.e_FORMS_go
  case iff => exact T.e_FORMS_if
  case ask => exact T.e_FORMS_ask
  case done => exact T.e_FORMS_done
  case mark => exact T.e_FORMS_mark
  case clear => exact T.e_FORMS_clear
  case rest => exact T.e_FORMS_rest
  case fin => exact T.e_FORMS_end
def PartOk (K : PySem.W.Frag) (n : Nat) (p : Int × Str) : Prop := if p.2 = "row" then numB (.int p.1) 0 ((n : Int) - 1) = true else ∃ lo hi, Ent K "BOUNDS" p.2 [.int lo, .int hi] ∧ numB (.int p.1) lo hi = true
theorem num_ok {i lo hi : Int} (h : rg lo hi i) : numB (.int i) lo hi = true := by
  show (decide (lo ≤ i) && decide (i ≤ hi)) = true
  rw [decide_eq_true h.1, decide_eq_true h.2]
  rfl
theorem part_of {n : Nat} {i lo hi : Int} {kd : Str} (hk : ¬ kd = "row") (e : Ent K "BOUNDS" kd [.int lo, .int hi]) (h : rg lo hi i) : PartOk K n (i, kd) := by
  unfold PartOk
  rw [if_neg hk]
  exact ⟨lo, hi, e, num_ok h⟩
theorem part_row {n : Nat} {i : Int} (h : 0 ≤ i ∧ i < n) : PartOk K n (i, "row") := by
  unfold PartOk
  rw [if_pos rfl]
  exact num_ok ⟨h.1, by omega⟩
theorem Row.partsOk (T : T w K mg) {n : Nat} {r : Row} (h : r.ok n) : ∀ p ∈ r.parts, PartOk K n p := by
  have cell : ∀ {i}, rg 0 3 i → PartOk K n (i, "cell") := fun h => part_of (by decide +kernel) T.e_BOUNDS_cell h
  have word : ∀ {i}, rg 0 999 i → PartOk K n (i, "word") := fun h => part_of (by decide +kernel) T.e_BOUNDS_word h
  have addr : ∀ {i}, rg 0 31 i → PartOk K n (i, "address") := fun h => part_of (by decide +kernel) T.e_BOUNDS_address h
  have frst : ∀ {i}, rg 0 2 i → PartOk K n (i, "first") := fun h => part_of (by decide +kernel) T.e_BOUNDS_first h
  have work : ∀ {i}, rg 0 5 i → PartOk K n (i, "work") := fun h => part_of (by decide +kernel) T.e_BOUNDS_work h
  have mark : ∀ {i}, rg 0 2 i → PartOk K n (i, "mark") := fun h => part_of (by decide +kernel) T.e_BOUNDS_mark h
  have rest : ∀ {i}, rg 1 9 i → PartOk K n (i, "rest") := fun h => part_of (by decide +kernel) T.e_BOUNDS_rest h
  intro p hp
  cases r <;> simp only [Row.parts, List.mem_cons, List.not_mem_nil, or_false] at hp
  case set => rcases hp with rfl | rfl; exact cell h.1; exact word h.2
  case add => rcases hp with rfl | rfl; exact cell h.1; exact cell h.2
  case less => rcases hp with rfl | rfl; exact cell h.1; exact cell h.2
  case get => rcases hp with rfl | rfl; exact cell h.1; exact addr h.2
  case put => rcases hp with rfl | rfl; exact addr h.1; exact cell h.2
  case getx => rcases hp with rfl | rfl; exact cell h.1; exact cell h.2
  case putx => rcases hp with rfl | rfl; exact cell h.1; exact cell h.2
  case pair => rcases hp with rfl | rfl; exact frst h.1; exact addr h.2
  case lay => rcases hp with rfl | rfl; exact addr h.1; exact frst h.2
  case go => subst hp; exact part_row h
  case iff => rcases hp with rfl | rfl; exact cell h.1; exact part_row h.2
  case ask => subst hp; exact work h
  case done => rcases hp with rfl | rfl; exact cell h.1; exact work h.2
  case mark => subst hp; exact mark h
  case clear => subst hp; exact mark h
  case rest => subst hp; exact rest h
def sp_is_row (K : PySem.W.Frag) : Sp := fun vs H Q _ => ∃ (t : Addr) (n : Nat) (r : Row), vs = [.ref t, .int (n : Int)] ∧ SqT K H t r.vs ∧ r.ok n ∧ ∀ H', Same H H' → Q (.bl true) H'
theorem ok_is_row (T : T w K mg) : FnR P w K mg base CX0 3 (He.ga K "is_row") (sp_is_row K) := by
  have F_is_part : FnR P w K mg base CX0 2 _ _ := ok_is_part T
  have F_is_one_of : FnR P w K mg base CX0 2 _ _ := ok_is_one_of T
  obtain ⟨es, en, DF⟩ := T.d_FORMS
  obtain ⟨fd, F⟩ := T.f_is_row
  refine F.r sc_is_row (fun _ _ _ _ _ _ us hl => match us, hl with | [_, _], _ => rfl) (fun vs H Q E h => ?_) (fun cdv A outer s H vs Q E hr h => ?_)
  · obtain ⟨_, _, _, rfl, _⟩ := h
    rfl
  · obtain ⟨t, n, r, rfl, ht, ok, q⟩ := h
    obtain ⟨fp, e1, e2⟩ := Row.form T r
    have po := Row.partsOk T ok
    rw [Row.vs_eq] at ht
    generalize r.nm = nm at ht e1
    generalize r.parts = ps at ht e2 po
    refine ⟨_, (pss_cons (ps_if (PW.pt (pw_or (pt_not (pt_val (pe_isi (n := "tuple") rfl T.u_isinstance rfl T.u_tuple (pv 0)))) (pw_or (pt_not (pt_truth (pv 0) (fun _ => rfl))) (pw_or (pt_not (pt_val (pe_isi (n := "str") rfl T.u_isinstance rfl T.u_str (pe_ix ix_tup (pv 0) pe_int (fun _ _ => rfl))))) (pw_or1 (pt_cmpR (op_notIn_kd DF) (pe_ix ix_tup (pv 0) pe_int (fun _ _ => rfl)) (pe_glob (v := .ref (He.ga K "FORMS")) rfl T.g_FORMS rfl) rfl))))))
      (pss_one (ps_ret pe_bl))
      pss_nil)
      (pss_cons (ps_set (i := 2) sc_is_row.nd rfl (Or.inl rfl) (pe_ix ix_kdict (pe_glob (v := .ref (He.ga K "FORMS")) rfl T.g_FORMS rfl) (pe_ix ix_tup (pv 0) pe_int (fun _ _ => rfl)) (fun _ _ => rfl)))
      (pss_cons (ps_if (pt_cmpR op_ne (pe_callB call_len_seq rfl T.u_len PySem.boot_len (pa_cons (pv 0) pa_nil)) (pe_op op_add (pe_callB call_len_seq rfl T.u_len PySem.boot_len (pa_cons (pv 2) pa_nil)) pe_int) (nomark _))
      (pss_one (ps_ret pe_bl))
      pss_nil)
      (pss_cons (ps_for PassesOwn.never rfl (RZ.pi_zipA rfl T.u_zip (pa_cons (pe_slice sl_tup (pv 0) (po_some pe_int) po_none) (pa_cons (pv 2) pa_nil))) (pg_tup rfl (pgs_cons (pg_name (i := 3) sc_is_row.nd rfl (Or.inl rfl)) (pgs_cons (pg_name (i := 4) sc_is_row.nd rfl (Or.inl rfl)) pgs_nil)))
      (pss_cons (ps_set (i := 5) sc_is_row.nd rfl (Or.inl rfl) (pe_ifExp (pt_cmpR op_eq (pv 4) pe_str (nomark _)) (pe_callR F_is_one_of (hr.mono (by decide)) rfl T.g_is_one_of T.k_is_one_of (pa_cons (pv 3) (pa_cons (pv 1) pa_nil))) (pe_callR F_is_part (hr.mono (by decide)) rfl T.g_is_part T.k_is_part (pa_cons (pv 3) (pa_cons (pv 4) pa_nil)))))
      (pss_one (ps_if (pt_not (pt_val (pv 5)))
      (pss_one (ps_ret pe_bl))
      pss_nil))))
      (pss_one (ps_ret pe_bl)))))), ?_⟩
    refine ⟨_, rfl, rfl, _, .tup ht, _, rfl, iteF ?_⟩ -- isinstance(row, tuple)
    refine ⟨_, rfl, true, ?_, iteF ?_⟩ -- not row
    · exact .inr (.inl ⟨_, ht, rfl⟩)
    refine ⟨_, rfl, _, _, _, _, rfl, rfl, ht, at0 _ _, rfl, _, .str _, _, rfl, iteF ?_⟩ -- isinstance(row[0], str)
    refine ⟨_, rfl, _, _, _, _, rfl, rfl, ht, at0 _ _, nm, _, rfl, rfl, e1, _, rfl, iteF ?_⟩ -- row[0] not in FORMS
    refine ⟨_, rfl, _, _, _, _, rfl, rfl, ht, at0 _ _, _, nm, .ref fp, rfl, rfl, ⟨es, en, _, DF.at_, DF.lit, e1, rfl⟩, ?_⟩ -- form = FORMS[row[0]]
    refine ⟨_, rfl, _, _, rfl, .inr ht, ?_⟩ -- len
    refine ⟨_, rfl, _, _, rfl, .inr (e2 _), _, _, rfl, rfl, ?_⟩ -- len(form) + 1
    refine ⟨rfl, _, rfl, ?_⟩
    have el : ((V.str nm :: ps.map fun p => V.int p.1).length : Int) = ((ps.map fun p => V.str p.2).length : Int) + 1 := by simp
    rw [dec_int', el, decide_eq_true rfl]
    refine iteF ?_
    have n1 : 1 ≤ (V.str nm :: ps.map fun p => V.int p.1).length := by simp
    refine ⟨_, rfl, _, rfl, _, _, rfl, ht, ?_, fun sp hsp => ?_⟩ -- slice row[1:]
    · rw [List.length_cons, sIx1]
      exact fun z => absurd z.1 (by decide)
    rw [cut1]
    refine ⟨_, rfl, ?_⟩ -- form
    have s1 : Same H (upd H sp (.tup (ps.map fun p => V.int p.1))) := Same.new (Same.refl H) hsp
    refine ⟨sp, fp, (ps.map fun p : Int × Str => V.int p.1), (ps.map fun p : Int × Str => V.str p.2), rfl, .inr ⟨.inl (.inl upd_same), e2 _, RZ.for_zipT (by simp) (fun i σ H2 => ∃ v3 v4 v5, σ = [some (.ref t), some (.int (n : Int)), some (.ref fp), v3, v4, v5] ∧ Same H H2 ∧ H2 sp = some (.tup (ps.map fun p => V.int p.1)))
      ⟨none, none, none, rfl, s1, upd_same⟩ (fun i σ H2 ⟨_, _, _, _, _, h⟩ => ⟨.inl (.inl h), e2 _⟩) ?_ ?_⟩⟩
    · rintro i x y tt σ H2 hx hy ⟨v3, v4, v5, rfl, s2, h2⟩ htt
      rw [List.getElem?_map] at hx hy
      cases hp : ps[i]? with
      | none => rw [hp] at hx; cases hx
      | some p =>
        rw [hp] at hx hy
        cases hx
        cases hy
        have hpo := po p (List.mem_of_getElem? hp)
        have s3 : Same H (upd H2 tt (.tup [.int p.1, .str p.2])) := s2.trans (Same.new (Same.refl H2) htt)
        have h3 : upd H2 tt (.tup [.int p.1, .str p.2]) sp = some (.tup (ps.map fun p => V.int p.1)) := by rw [upd_ne (ne_of_none h2 htt)]; exact h2
        refine ⟨tt, _, rfl, .inl (.inl upd_same), rfl, _, _, rfl, _, _, rfl, rfl, ?_⟩
        refine ⟨_, rfl, rfl, _, rfl, ?_⟩
        rw [dec_str]
        unfold PartOk at hpo
        by_cases g : p.2 = "row"
        · rw [decide_eq_true g]
          rw [if_pos g] at hpo
          refine iteT ?_
          refine ⟨_, rfl, _, rfl, _, _, "int", rfl, .int _, ?_⟩
          rw [hpo]
          refine ⟨_, rfl, _, rfl, iteF ?_⟩
          exact ⟨_, _, _, rfl, s3, h3⟩
        · rw [decide_eq_false g]
          rw [if_neg g] at hpo
          obtain ⟨lo, hi, en', hn⟩ := hpo
          refine iteF ?_
          refine ⟨_, rfl, _, rfl, _, _, lo, hi, "int", rfl, en', .int _, ?_⟩
          rw [hn]
          refine ⟨_, rfl, _, rfl, iteF ?_⟩
          exact ⟨_, _, _, rfl, s3, h3⟩
    · rintro σ H2 ⟨v3, v4, v5, rfl, s2, h2⟩
      exact q _ s2
structure WOk (n : Nat) (k : Wk) : Prop where
  b : rg 0 31 k.begin
  g : rg 0 31 k.goal
  m : rg 1 16 k.many
  c : rg 1 4 k.block
  gr : k.greed = "all" ∨ k.greed = "turn" ∨ k.greed = "idle"
  mar : ∀ i, k.mark = some i → rg 0 2 i
  fo : ∀ i, k.follow = some i → 0 ≤ i ∧ i < n
def sp_is_work (K : PySem.W.Frag) : Sp := fun vs H Q _ => ∃ (t : Addr) (n : Nat) (k : Wk), vs = [.ref t, .int (n : Int)] ∧ SqT K H t k.vs ∧ WOk n k ∧ Q (.bl true) H
theorem ok_is_work (T : T w K mg) : FnR P w K mg base CX0 3 (He.ga K "is_work") (sp_is_work K) := by
  have F_is_part : FnR P w K mg base CX0 2 _ _ := ok_is_part T
  have F_is_one_of : FnR P w K mg base CX0 2 _ _ := ok_is_one_of T
  obtain ⟨fd, F⟩ := T.f_is_work
  refine F.r sc_is_work (fun _ _ _ _ _ _ us hl => match us, hl with | [_, _], _ => rfl) (fun vs H Q E h => ?_) (fun cdv A outer s H vs Q E hr h => ?_)
  · obtain ⟨_, _, _, rfl, _⟩ := h
    rfl
  · obtain ⟨t, n, k, rfl, ht, ok, q⟩ := h
    refine ⟨_, (pss_cons (ps_if (PW.pt (pw_or (pt_not (pt_val (pe_isi (n := "tuple") rfl T.u_isinstance rfl T.u_tuple (pv 0)))) (pw_or1 (pt_cmpR op_ne (pe_callB call_len_seq rfl T.u_len PySem.boot_len (pa_cons (pv 0) pa_nil)) pe_int (nomark _)))))
      (pss_one (ps_ret pe_bl))
      pss_nil)
      (pss_cons (ps_asg (pv 0) (pg_tup rfl (pgs_cons (pg_name (i := 2) sc_is_work.nd rfl (Or.inl rfl)) (pgs_cons (pg_name (i := 3) sc_is_work.nd rfl (Or.inl rfl)) (pgs_cons (pg_name (i := 4) sc_is_work.nd rfl (Or.inl rfl)) (pgs_cons (pg_name (i := 5) sc_is_work.nd rfl (Or.inl rfl)) (pgs_cons (pg_name (i := 6) sc_is_work.nd rfl (Or.inl rfl)) (pgs_cons (pg_name (i := 7) sc_is_work.nd rfl (Or.inl rfl)) (pgs_cons (pg_name (i := 8) sc_is_work.nd rfl (Or.inl rfl)) pgs_nil)))))))))
      (pss_cons (ps_set (i := 9) sc_is_work.nd rfl (Or.inl rfl) (pe_and (pe_callR F_is_part (hr.mono (by decide)) rfl T.g_is_part T.k_is_part (pa_cons (pv 2) (pa_cons pe_str pa_nil))) (pe_and (pe_callR F_is_part (hr.mono (by decide)) rfl T.g_is_part T.k_is_part (pa_cons (pv 3) (pa_cons pe_str pa_nil))) (pe_one (pe_callR F_is_part (hr.mono (by decide)) rfl T.g_is_part T.k_is_part (pa_cons (pv 4) (pa_cons pe_str pa_nil)))))))
      (pss_cons (ps_set (i := 10) sc_is_work.nd rfl (Or.inl rfl) (pe_and (pe_callR F_is_part (hr.mono (by decide)) rfl T.g_is_part T.k_is_part (pa_cons (pv 5) (pa_cons pe_str pa_nil))) (pe_one (pe_or (pe_cmp (pc_isN (pv 7))) (pe_one (pe_callR F_is_part (hr.mono (by decide)) rfl T.g_is_part T.k_is_part (pa_cons (pv 7) (pa_cons pe_str pa_nil))))))))
      (pss_one (ps_ret (pe_and (pv 9) (pe_and (pv 10) (pe_and (pe_cmpR op_in_seq (pv 6) (pe_glob (v := .ref (He.ga K "GREEDS")) rfl T.g_GREEDS rfl) rfl) (pe_one (pe_or (pe_cmp (pc_isN (pv 8))) (pe_one (pe_callR F_is_one_of (hr.mono (by decide)) rfl T.g_is_one_of T.k_is_one_of (pa_cons (pv 8) (pa_cons (pv 1) pa_nil))))))))))))))), ?_⟩
    refine ⟨_, rfl, rfl, _, .tup ht, _, rfl, iteF ?_⟩ -- isinstance(work, tuple)
    refine ⟨_, rfl, _, _, rfl, .inr ht, rfl, _, rfl, iteF ?_⟩ -- len(work) != 7
    refine ⟨_, rfl, _, _, rfl, ht, rfl, _, _, rfl, _, _, rfl, _, _, rfl, _, _, rfl, _, _, rfl, _, _, rfl, _, _, rfl, rfl, ?_⟩ -- begin, goal, many, block, greed, mark, follow = work
    refine ⟨_, rfl, _, _, 0, 31, "int", rfl, T.e_BOUNDS_address, .int _, ?_⟩
    rw [num_ok ok.b]
    refine ⟨_, rfl, iteT ?_⟩
    refine ⟨_, rfl, _, _, 0, 31, "int", rfl, T.e_BOUNDS_address, .int _, ?_⟩
    rw [num_ok ok.g]
    refine ⟨_, rfl, iteT ?_⟩
    refine ⟨_, rfl, _, _, 1, 16, "int", rfl, T.e_BOUNDS_many, .int _, ?_⟩
    rw [num_ok ok.m]
    refine ⟨_, rfl, _, _, 1, 4, "int", rfl, T.e_BOUNDS_block, .int _, ?_⟩
    rw [num_ok ok.c]
    refine ⟨_, rfl, iteT ?_⟩
    refine ⟨_, rfl, _, rfl, ?_⟩ -- mark is None
    have fin : ∀ (σ : L2.St), σ[9]? = some (some (.bl true)) → σ[10]? = some (some (.bl true)) → σ[6]? = some (some (.str k.greed)) → σ[8]? = some (some (oV k.follow)) → σ[1]? = some (some (.int (n : Int))) →
        tAndV (tVar 9) (tAndV (tVar 10) (tAndV (tOp (rIn K false) (tVar 6) (tC (.ref (He.ga K "GREEDS")))) (tOrV (tIsN (tVar 8)) (tCallR (sp_is_one_of K) (tCons (tVar 8) (tCons (tVar 1) tNil)))))) σ H Q := by
      intro σ h9 h10 h6 h8 h1
      refine ⟨_, h9, _, rfl, iteT ?_⟩
      refine ⟨_, h10, _, rfl, iteT ?_⟩
      refine ⟨_, h6, _, _, rfl, .inr (T.tt_GREEDS _), rfl, rfl, ?_⟩
      have eg : (if false = true then !inV (V.str k.greed) [.str "all", .str "turn", .str "idle"] else inV (V.str k.greed) [.str "all", .str "turn", .str "idle"]) = true := by
        rcases ok.gr with e | e | e <;> rw [e] <;> decide +kernel
      rw [eg]
      refine ⟨_, rfl, iteT ?_⟩
      refine ⟨_, h8, _, rfl, ?_⟩
      cases ef : k.follow with
      | none => exact iteT q
      | some f =>
        refine iteF ?_
        refine ⟨_, h8, _, h1, _, _, "int", rfl, by rw [ef]; exact .int f, ?_⟩
        rw [ef]
        have := ok.fo f ef
        show Q (.bl (numB (.int f) 0 ((n : Int) - 1))) H
        rw [num_ok ⟨this.1, by omega⟩]
        exact q
    cases em : k.mark with
    | none =>
      refine iteT ?_
      exact fin _ rfl rfl rfl rfl rfl
    | some i =>
      refine iteF ?_
      refine ⟨_, rfl, _, _, 0, 2, "int", rfl, T.e_BOUNDS_mark, .int i, ?_⟩
      have e2 : numB (oV (some i)) 0 2 = true := num_ok (ok.mar i em)
      rw [e2]
      exact fin _ rfl rfl rfl rfl rfl
end
end SB

set_option Elab.async false
set_option linter.all false
set_option maxRecDepth 100000
set_option maxHeartbeats 2000000
namespace SB
open PySem L2
theorem walk_enumT {K : PySem.W.Frag} {a : Addr} {xs : List V} : Walk (IteT K a) xs.length (fun H => SqT K H a xs) (YPair (fun i => some (.int (i : Nat))) (fun i => xs[i]?)) := by
  refine ⟨fun i _ hi q => ⟨xs, xs[i], q, by simp [hi]⟩, fun _ q => ⟨xs, q, Nat.le_refl _⟩, fun i H v H' _ q y => ?_⟩
  obtain ⟨T, x, h1, h2, h3, h4⟩ := y
  exact ⟨T, .int (i : Nat), x, h1, h2, h3, rfl, h4 xs q⟩
section
variable {P : Program} {w : World} {K : PySem.W.Frag} {mg : Str → Option Value} {base : Heap}
def sp_is_ask (K : PySem.W.Frag) : Sp := fun vs H Q _ => ∃ (t : Addr) (n : Nat) (b x e : Int), vs = [.ref t, .int (n : Int), .int e] ∧ SqT K H t [.int b, .int x] ∧ rg 0 200 b ∧ e ≤ b ∧ 0 ≤ x ∧ x < n ∧ Q (.bl true) H
theorem ok_is_ask (T : T w K mg) : FnR P w K mg base CX0 3 (He.ga K "is_ask") (sp_is_ask K) := by
  have F_is_part : FnR P w K mg base CX0 2 _ _ := ok_is_part T
  have F_is_one_of : FnR P w K mg base CX0 2 _ _ := ok_is_one_of T
  obtain ⟨fd, F⟩ := T.f_is_ask
  refine F.r sc_is_ask (fun _ _ _ _ _ _ us hl => match us, hl with | [_, _, _], _ => rfl) (fun vs H Q E h => ?_) (fun cdv A outer s H vs Q E hr h => ?_)
  · obtain ⟨_, _, _, _, _, rfl, _⟩ := h
    rfl
  · obtain ⟨t, n, b, x, e, rfl, ht, hb, he, h0, h1, q⟩ := h
    refine ⟨_, (pss_cons (ps_if (PW.pt (pw_or (pt_not (pt_val (pe_isi (n := "tuple") rfl T.u_isinstance rfl T.u_tuple (pv 0)))) (pw_or1 (pt_cmpR op_ne (pe_callB call_len_seq rfl T.u_len PySem.boot_len (pa_cons (pv 0) pa_nil)) pe_int (nomark _)))))
      (pss_one (ps_ret pe_bl))
      pss_nil)
      (pss_cons (ps_asg (pv 0) (pg_tup rfl (pgs_cons (pg_name (i := 3) sc_is_ask.nd rfl (Or.inl rfl)) (pgs_cons (pg_name (i := 4) sc_is_ask.nd rfl (Or.inl rfl)) pgs_nil))))
      (pss_one (ps_ret (pe_and (pe_callR F_is_part (hr.mono (by decide)) rfl T.g_is_part T.k_is_part (pa_cons (pv 3) (pa_cons pe_str pa_nil))) (pe_and (pe_cmpR op_ge (pv 3) (pv 2) (nomark _)) (pe_one (pe_callR F_is_one_of (hr.mono (by decide)) rfl T.g_is_one_of T.k_is_one_of (pa_cons (pv 4) (pa_cons (pv 1) pa_nil)))))))))), ?_⟩
    refine ⟨_, rfl, rfl, _, .tup ht, _, rfl, iteF ?_⟩ -- isinstance(ask, tuple)
    refine ⟨_, rfl, _, _, rfl, .inr ht, rfl, _, rfl, iteF ?_⟩ -- len(ask) != 2
    refine ⟨_, rfl, _, _, rfl, ht, rfl, _, _, rfl, _, _, rfl, rfl, ?_⟩ -- when, work = ask
    refine ⟨_, rfl, _, _, 0, 200, "int", rfl, T.e_BOUNDS_ask, .int _, ?_⟩
    rw [num_ok hb]
    refine ⟨_, rfl, iteT ?_⟩
    refine ⟨_, rfl, _, rfl, _, _, rfl, rfl, ?_⟩ -- when >= earliest
    refine ⟨decide (e ≤ b), rfl, ?_⟩
    rw [decide_eq_true he]
    refine iteT ?_
    refine ⟨_, rfl, _, rfl, _, _, "int", rfl, .int _, ?_⟩
    rw [num_ok (show rg 0 ((n : Int) - 1) x from ⟨h0, by omega⟩)]
    exact q
def sp_check_program (K : PySem.W.Frag) : Sp := fun vs H Q _ => ∃ (pa : Addr) (rs : List Addr) (prog : List Row), vs = [.ref pa] ∧ ProgAt K H pa rs prog ∧ 0 < prog.length ∧ prog.length ≤ 40 ∧ (∀ r ∈ prog, r.ok prog.length) ∧ ∀ H', Same H H' → Q .non H'
theorem ok_check_program (T : T w K mg) : FnR P w K mg base CX0 4 (He.ga K "check_program") (sp_check_program K) := by
  have F_is_row : FnR P w K mg base CX0 3 _ _ := ok_is_row T
  obtain ⟨t1, g_MOST_ROWS⟩ := T.i_MOST_ROWS
  obtain ⟨fd, F⟩ := T.f_check_program
  refine F.r sc_check_program (fun _ _ _ _ _ _ us hl => match us, hl with | [_], _ => rfl) (fun vs H Q E h => ?_) (fun cdv A outer s H vs Q E hr h => ?_)
  · obtain ⟨_, _, _, rfl, _⟩ := h
    rfl
  · obtain ⟨pa, rs, prog, rfl, Pr, p0, p40, ok, q⟩ := h
    refine ⟨_, (pss_cons (ps_if (PW.pt (pw_or (pt_not (pt_val (pe_isi (n := "tuple") rfl T.u_isinstance rfl T.u_tuple (pv 0)))) (pw_or1 (pt_not (pt_truth (pv 0) (fun _ => rfl))))))
      (pss_one ps_never)
      pss_nil)
      (pss_one (ps_for PassesOwn.never rfl (pi_enumT rfl T.u_enumerate (pa_cons (pv 0) pa_nil)) (pg_tup rfl (pgs_cons (pg_name (i := 1) sc_check_program.nd rfl (Or.inl rfl)) (pgs_cons (pg_name (i := 2) sc_check_program.nd rfl (Or.inl rfl)) pgs_nil)))
      (pss_one (ps_if (PW.pt (pw_or (pt_cmpR op_eq (pv 1) (pe_glob (v := .int 40) rfl g_MOST_ROWS ⟨_, rfl⟩) (nomark _)) (pw_or1 (pt_not (pt_val (pe_callR F_is_row (hr.mono (by decide)) rfl T.g_is_row T.k_is_row (pa_cons (pv 2) (pa_cons (pe_callB call_len_seq rfl T.u_len PySem.boot_len (pa_cons (pv 0) pa_nil)) pa_nil))))))))
      (pss_one ps_never)
      pss_nil))))), ?_⟩
    have ne : (rs.map V.ref).isEmpty = false := by
      cases rs with
      | nil => have := Pr.len; simp at this; omega
      | cons a r => rfl
    refine ⟨_, rfl, rfl, _, .tup Pr.tup, _, rfl, iteF ?_⟩ -- isinstance(program, tuple)
    refine ⟨_, rfl, true, .inr (.inl ⟨_, Pr.tup, by rw [ne]; rfl⟩), iteF ?_⟩ -- not program
    refine ⟨_, rfl, pa, rs.map V.ref, rfl, Pr.tup, for_it walk_enumT (fun i σ H2 => ∃ v1 v2, σ = [some (.ref pa), v1, v2] ∧ Same H H2) ⟨none, none, rfl, Same.refl H⟩ (fun i σ H2 _ ⟨_, _, _, s2⟩ => Same.tup s2 Pr.tup) ?_ ?_⟩
    · rintro i x σ H2 H3 hi ⟨v1, v2, rfl, s2⟩ ⟨t, y, z, rfl, ht, rfl, e1, e2⟩
      cases e1
      rw [List.length_map] at hi
      have hi2 : i < prog.length := by rw [← Pr.len]; exact hi
      obtain ⟨r, hr'⟩ : ∃ r, prog[i]? = some r := ⟨_, List.getElem?_eq_getElem hi2⟩
      obtain ⟨a, e3, e4⟩ := Pr.get hr'
      have e2 : (rs.map V.ref)[i]? = some z := e2
      rw [List.getElem?_map, e3] at e2
      cases e2
      have s3 : Same H (upd H2 t (.tup [.int (i : Int), .ref a])) := s2.trans (Same.new (Same.refl H2) ht)
      refine ⟨t, _, rfl, .inl (.inl upd_same), rfl, _, _, rfl, _, _, rfl, rfl, ?_⟩
      refine ⟨_, rfl, rfl, _, rfl, ?_⟩
      rw [dec_int', decide_eq_false (by omega)]
      refine iteF ?_
      refine ⟨_, rfl, _, rfl, _, _, rfl, .inr (Same.tup s3 Pr.tup), ?_⟩
      rw [List.length_map, Pr.len]
      refine ⟨a, prog.length, r, rfl, Same.tup s3 e4, ok r (List.mem_of_getElem? hr'), fun H4 s4 => ?_⟩
      exact ⟨_, rfl, iteF ⟨_, _, rfl, s3.trans s4⟩⟩
    · rintro σ H2 ⟨v1, v2, rfl, s2⟩
      exact q _ s2
def sp_check_works (K : PySem.W.Frag) : Sp := fun vs H Q _ => ∃ (wl : Addr) (ts : List Addr) (ks : List Wk), vs = [.ref wl] ∧ WorksAt K H wl ts ks ∧ ks.length ≤ 6 ∧ (∀ k ∈ ks, WOk ks.length k) ∧ ∀ H', Same H H' → Q .non H'
theorem ok_check_works (T : T w K mg) : FnR P w K mg base CX0 4 (He.ga K "check_works") (sp_check_works K) := by
  have F_is_work : FnR P w K mg base CX0 3 _ _ := ok_is_work T
  obtain ⟨t1, g_MOST_WORKS⟩ := T.i_MOST_WORKS
  obtain ⟨fd, F⟩ := T.f_check_works
  refine F.r sc_check_works (fun _ _ _ _ _ _ us hl => match us, hl with | [_], _ => rfl) (fun vs H Q E h => ?_) (fun cdv A outer s H vs Q E hr h => ?_)
  · obtain ⟨_, _, _, rfl, _⟩ := h
    rfl
  · obtain ⟨wl, ts, ks, rfl, W, w6, ok, q⟩ := h
    refine ⟨_, (pss_cons (ps_if (pt_not (pt_val (pe_isi (n := "list") rfl T.u_isinstance rfl T.u_list (pv 0))))
      (pss_one ps_never)
      pss_nil)
      (pss_one (ps_for PassesOwn.never rfl (pi_enum rfl T.u_enumerate (pa_cons (pv 0) pa_nil)) (pg_tup rfl (pgs_cons (pg_name (i := 1) sc_check_works.nd rfl (Or.inl rfl)) (pgs_cons (pg_name (i := 2) sc_check_works.nd rfl (Or.inl rfl)) pgs_nil)))
      (pss_one (ps_if (PW.pt (pw_or (pt_cmpR op_eq (pv 1) (pe_glob (v := .int 6) rfl g_MOST_WORKS ⟨_, rfl⟩) (nomark _)) (pw_or1 (pt_not (pt_val (pe_callR F_is_work (hr.mono (by decide)) rfl T.g_is_work T.k_is_work (pa_cons (pv 2) (pa_cons (pe_callB call_len_seq rfl T.u_len PySem.boot_len (pa_cons (pv 0) pa_nil)) pa_nil))))))))
      (pss_one ps_never)
      pss_nil))))), ?_⟩
    refine ⟨_, rfl, rfl, _, .lst W.lst, _, rfl, iteF ?_⟩ -- isinstance(works, list)
    refine ⟨_, rfl, wl, ts.map V.ref, rfl, W.lst, for_it walk_enum (fun i σ H2 => ∃ v1 v2, σ = [some (.ref wl), v1, v2] ∧ Same H H2) ⟨none, none, rfl, Same.refl H⟩ (fun i σ H2 _ ⟨_, _, _, s2⟩ => s2.seq W.lst) ?_ ?_⟩
    · rintro i x σ H2 H3 hi ⟨v1, v2, rfl, s2⟩ ⟨t, y, z, rfl, ht, rfl, e1, e2⟩
      cases e1
      rw [List.length_map] at hi
      have hi2 : i < ks.length := by rw [← W.len]; exact hi
      obtain ⟨r, hr'⟩ : ∃ r, ks[i]? = some r := ⟨_, List.getElem?_eq_getElem hi2⟩
      obtain ⟨a, e3⟩ : ∃ a, ts[i]? = some a := ⟨_, List.getElem?_eq_getElem hi⟩
      have e4 := W.at_ i a r e3 hr'
      have e2 : (ts.map V.ref)[i]? = some z := e2
      rw [List.getElem?_map, e3] at e2
      cases e2
      have s3 : Same H (upd H2 t (.tup [.int (i : Int), .ref a])) := s2.trans (Same.new (Same.refl H2) ht)
      refine ⟨t, _, rfl, .inl (.inl upd_same), rfl, _, _, rfl, _, _, rfl, rfl, ?_⟩
      refine ⟨_, rfl, rfl, _, rfl, ?_⟩
      rw [dec_int', decide_eq_false (by omega)]
      refine iteF ?_
      refine ⟨_, rfl, _, rfl, _, _, rfl, .inl (s3.seq W.lst), ?_⟩
      rw [List.length_map, W.len]
      refine ⟨a, ks.length, r, rfl, Same.tup s3 e4, ok r (List.mem_of_getElem? hr'), ?_⟩
      exact ⟨_, rfl, iteF ⟨_, _, rfl, s3⟩⟩
    · rintro σ H2 ⟨v1, v2, rfl, s2⟩
      exact q _ s2
def sp_check_memory (K : PySem.W.Frag) : Sp := fun vs H Q _ => ∃ (l : Addr) (ws : List Int), vs = [.ref l] ∧ SqL K H l (ws.map V.int) ∧ 4 ≤ ws.length ∧ ws.length ≤ 32 ∧ (∀ x ∈ ws, rg 0 999 x) ∧ Q .non H
theorem ok_check_memory (T : T w K mg) : FnR P w K mg base CX0 3 (He.ga K "check_memory") (sp_check_memory K) := by
  have F_is_part : FnR P w K mg base CX0 2 _ _ := ok_is_part T
  obtain ⟨t1, g_FEWEST_WORDS⟩ := T.i_FEWEST_WORDS
  obtain ⟨t2, g_MOST_WORDS⟩ := T.i_MOST_WORDS
  obtain ⟨fd, F⟩ := T.f_check_memory
  refine F.r sc_check_memory (fun _ _ _ _ _ _ us hl => match us, hl with | [_], _ => rfl) (fun vs H Q E h => ?_) (fun cdv A outer s H vs Q E hr h => ?_)
  · obtain ⟨_, _, rfl, _⟩ := h
    rfl
  · obtain ⟨l, ws, rfl, hl, w4, w32, ok, q⟩ := h
    refine ⟨_, (pss_cons (ps_if (PW.pt (pw_or (pt_not (pt_val (pe_isi (n := "list") rfl T.u_isinstance rfl T.u_list (pv 0)))) (pw_or1 (pt_not (pt_chain op_le op_le (pe_glob (v := .int 4) rfl g_FEWEST_WORDS ⟨_, rfl⟩) (pe_callB call_len_seq rfl T.u_len PySem.boot_len (pa_cons (pv 0) pa_nil)) (pe_glob (v := .int 32) rfl g_MOST_WORDS ⟨_, rfl⟩))))))
      (pss_one ps_never)
      pss_nil)
      (pss_one (ps_for PassesOwn.never rfl (pi_list (pv 0)) (pg_name (i := 1) sc_check_memory.nd rfl (Or.inl rfl))
      (pss_one (ps_if (pt_not (pt_val (pe_callR F_is_part (hr.mono (by decide)) rfl T.g_is_part T.k_is_part (pa_cons (pv 1) (pa_cons pe_str pa_nil)))))
      (pss_one ps_never)
      pss_nil))))), ?_⟩
    refine ⟨_, rfl, rfl, _, .lst hl, _, rfl, iteF ?_⟩ -- isinstance(memory, list)
    refine ⟨_, rfl, _, _, rfl, .inl hl, _, _, rfl, rfl, ?_⟩
    rw [List.length_map]
    refine ⟨decide ((4 : Int) ≤ (ws.length : Int)), rfl, ?_⟩
    rw [decide_eq_true (show (4 : Int) ≤ (ws.length : Int) by omega)]
    refine iteT ?_
    refine ⟨_, _, rfl, rfl, decide ((ws.length : Int) ≤ (32 : Int)), rfl, ?_⟩
    rw [decide_eq_true (show (ws.length : Int) ≤ (32 : Int) by omega)]
    refine iteF ?_
    refine ⟨_, rfl, l, rfl, ⟨_, hl⟩, for_list (K := K) (a := l) (xs := ws.map V.int) (fun i σ H2 => ∃ v1, σ = [some (.ref l), v1] ∧ H2 = H) ⟨none, rfl, rfl⟩ (fun i σ H2 _ ⟨_, _, e⟩ => by rw [e]; exact hl) ?_ ?_⟩
    · rintro i x σ H2 hx ⟨v1, rfl, rfl⟩
      rw [List.getElem?_map] at hx
      cases hy : ws[i]? with
      | none => rw [hy] at hx; cases hx
      | some y =>
        rw [hy] at hx
        cases hx
        refine ⟨_, rfl, _, _, 0, 999, "int", rfl, T.e_BOUNDS_word, .int _, ?_⟩
        rw [num_ok (ok y (List.mem_of_getElem? hy))]
        exact ⟨_, rfl, iteF ⟨_, rfl, rfl⟩⟩
    · rintro σ H2 ⟨v1, rfl, rfl⟩
      exact q
structure AsksAt (K : PySem.W.Frag) (H : Hp) (al : Addr) (qs : List Addr) (as : List (Int × Int)) : Prop where
  lst : SqL K H al (qs.map V.ref)
  len : qs.length = as.length
  at_ : ∀ (j : Nat) (t : Addr) (a : Int × Int), qs[j]? = some t → as[j]? = some a → SqT K H t [.int a.1, .int a.2]
theorem AsksAt.same {H H' : Hp} {al : Addr} {qs : List Addr} {as : List (Int × Int)} (A : AsksAt K H al qs as) (s : Same H H') : AsksAt K H' al qs as := ⟨s.seq A.lst, A.len, fun j t k h1 h2 => Same.tup s (A.at_ j t k h1 h2)⟩
structure AOk (n : Nat) (as : List (Int × Int)) : Prop where
  len : as.length ≤ 8
  each : ∀ a ∈ as, rg 0 200 a.1 ∧ 0 ≤ a.2 ∧ a.2 < n
  srt : ∀ (i : Nat) a b, as[i]? = some a → as[i + 1]? = some b → a.1 ≤ b.1
def sp_check_asks (K : PySem.W.Frag) : Sp := fun vs H Q _ => ∃ (al wl : Addr) (qs ts : List Addr) (as : List (Int × Int)) (ks : List Wk), vs = [.ref al, .ref wl] ∧ AsksAt K H al qs as ∧ WorksAt K H wl ts ks ∧ AOk ks.length as ∧ ∀ H', Same H H' → Q .non H'
theorem ok_check_asks (T : T w K mg) : FnR P w K mg base CX0 4 (He.ga K "check_asks") (sp_check_asks K) := by
  have F_is_ask : FnR P w K mg base CX0 3 _ _ := ok_is_ask T
  obtain ⟨t1, g_MOST_ASKS⟩ := T.i_MOST_ASKS
  obtain ⟨fd, F⟩ := T.f_check_asks
  refine F.r sc_check_asks (fun _ _ _ _ _ _ us hl => match us, hl with | [_, _], _ => rfl) (fun vs H Q E h => ?_) (fun cdv A outer s H vs Q E hr h => ?_)
  · obtain ⟨_, _, _, _, _, _, rfl, _⟩ := h
    rfl
  · obtain ⟨al, wl, qs, ts, as, ks, rfl, A', W, ok, q⟩ := h
    refine ⟨_, (pss_cons (ps_if (pt_not (pt_val (pe_isi (n := "list") rfl T.u_isinstance rfl T.u_list (pv 0))))
      (pss_one ps_never)
      pss_nil)
      (pss_cons (ps_set (i := 2) sc_check_asks.nd rfl (Or.inl rfl) pe_int)
      (pss_one (ps_for PassesOwn.never rfl (pi_enum rfl T.u_enumerate (pa_cons (pv 0) pa_nil)) (pg_tup rfl (pgs_cons (pg_name (i := 3) sc_check_asks.nd rfl (Or.inl rfl)) (pgs_cons (pg_name (i := 4) sc_check_asks.nd rfl (Or.inl rfl)) pgs_nil)))
      (pss_cons (ps_if (PW.pt (pw_or (pt_cmpR op_eq (pv 3) (pe_glob (v := .int 8) rfl g_MOST_ASKS ⟨_, rfl⟩) (nomark _)) (pw_or1 (pt_not (pt_val (pe_callR F_is_ask (hr.mono (by decide)) rfl T.g_is_ask T.k_is_ask (pa_cons (pv 4) (pa_cons (pe_callB call_len_seq rfl T.u_len PySem.boot_len (pa_cons (pv 1) pa_nil)) (pa_cons (pv 2) pa_nil)))))))))
      (pss_one ps_never)
      pss_nil)
      (pss_one (ps_set (i := 2) sc_check_asks.nd rfl (Or.inl rfl) (pe_ix ix_tup (pv 4) pe_int (fun _ _ => rfl))))))))), ?_⟩
    refine ⟨_, rfl, rfl, _, .lst A'.lst, _, rfl, iteF ?_⟩ -- isinstance(asks, list)
    refine ⟨_, rfl, al, qs.map V.ref, rfl, A'.lst, for_it walk_enum (fun i σ H2 => ∃ (e : Int) (v3 v4 : Option V), σ = [some (.ref al), some (.ref wl), some (.int e), v3, v4] ∧ Same H H2 ∧ (∀ a, as[i]? = some a → e ≤ a.1)) ⟨0, none, none, rfl, Same.refl H, fun a ha => (ok.each a (List.mem_of_getElem? ha)).1.1⟩ (fun i σ H2 _ ⟨_, _, _, _, s2, _⟩ => s2.seq A'.lst) ?_ ?_⟩
    · rintro i x σ H2 H3 hi ⟨e, v3, v4, rfl, s2, he⟩ ⟨t, y, z, rfl, ht, rfl, e1, e2⟩
      cases e1
      rw [List.length_map] at hi
      have hi2 : i < as.length := by rw [← A'.len]; exact hi
      obtain ⟨r, hr'⟩ : ∃ r, as[i]? = some r := ⟨_, List.getElem?_eq_getElem hi2⟩
      obtain ⟨a, e3⟩ : ∃ a, qs[i]? = some a := ⟨_, List.getElem?_eq_getElem hi⟩
      have e4 := A'.at_ i a r e3 hr'
      have e2 : (qs.map V.ref)[i]? = some z := e2
      rw [List.getElem?_map, e3] at e2
      cases e2
      have s3 : Same H (upd H2 t (.tup [.int (i : Int), .ref a])) := s2.trans (Same.new (Same.refl H2) ht)
      have hok := ok.each r (List.mem_of_getElem? hr')
      have l8 := ok.len
      refine ⟨t, _, rfl, .inl (.inl upd_same), rfl, _, _, rfl, _, _, rfl, rfl, ?_⟩
      refine ⟨_, rfl, rfl, _, rfl, ?_⟩
      rw [dec_int', decide_eq_false (by omega)]
      refine iteF ?_
      refine ⟨_, rfl, _, rfl, _, _, rfl, .inl (s3.seq W.lst), ?_⟩
      rw [List.length_map, W.len]
      refine ⟨_, rfl, a, ks.length, r.1, r.2, e, rfl, Same.tup s3 e4, hok.1, he r hr', hok.2.1, hok.2.2, ?_⟩
      refine ⟨_, rfl, iteF ?_⟩
      refine ⟨_, rfl, _, _, _, _, rfl, rfl, Same.tup s3 e4, at0 _ _, ?_⟩
      exact ⟨r.1, _, _, rfl, s3, fun b hb => ok.srt i r b hr' hb⟩
    · rintro σ H2 ⟨e, v3, v4, rfl, s2, _⟩
      exact q _ s2
end
end SB

set_option Elab.async false
set_option linter.all false
set_option maxRecDepth 100000
set_option maxHeartbeats 2000000
namespace SB
open PySem L2
structure HS where
  prog : List Row
  asks : List (Int × Int)
  S : MS
  ks : List Wk
  took : Bool
  ws : List Int
  beats : Int
def askOne (b : Int) (ks : List Wk) (a : Int × Int) : List Wk := if a.1 = b then ks.modify a.2.toNat Wk.start else ks
def askAll (b : Int) (ks : List Wk) (as : List (Int × Int)) : List Wk := as.foldl (askOne b) ks
def HS.dm (s : HS) := devMove (askAll s.beats s.ks s.asks) s.took (wantedOf s.prog s.S).isSome s.S.marks s.ws
def HS.ms (s : HS) := mstep s.prog s.S s.dm.1 s.dm.2.1 s.dm.2.2.1
def HS.next (s : HS) : HS := { s with S := s.ms.1, ks := s.ms.2.1, took := s.dm.2.1, ws := s.ms.2.2.1, beats := s.beats + 1 }
def askedOf (s : HS) : List Int := (s.asks.filter fun a => decide (a.1 = s.beats)).map (·.2)
def HS.wake (s : HS) (g : GH) : GH := ({ g with nb := g.G.length } : GH).startAll (askedOf s)
def HS.gmove (s : HS) (g : GH) : GH := devG (askAll s.beats s.ks s.asks) s.took (wantedOf s.prog s.S).isSome s.S.marks s.ws s.beats (s.wake g)
def HS.gnext (s : HS) (g : GH) : GH := mstepG s.prog s.S s.dm.2.1 (s.gmove g)
theorem startAll_asks {b : Int} : ∀ {as : List (Int × Int)} {ks : List Wk}, startAll ks ((as.filter fun a => decide (a.1 = b)).map (·.2)) = askAll b ks as
  | [], ks => rfl
  | a :: r, ks => by
    have ih := fun ks' => startAll_asks (b := b) (as := r) (ks := ks')
    show startAll ks (((a :: r).filter fun a => decide (a.1 = b)).map (·.2)) = askAll b (askOne b ks a) r
    by_cases h : a.1 = b
    · rw [List.filter_cons_of_pos (by simpa using h)]
      unfold askOne
      rw [if_pos h]
      exact ih _
    · rw [List.filter_cons_of_neg (by simpa using h)]
      unfold askOne
      rw [if_neg h]
      exact ih _
structure HOk (s : HS) : Prop where
  m : MOk s.prog s.S
  w0 : 0 < s.ws.length
  k : ∀ k ∈ s.ks, WkOk 3 k
  a : ∀ a ∈ s.asks, 0 ≤ a.2
  a8 : s.asks.length ≤ 8
  l6 : s.ks.length ≤ 6
theorem Row.beats_pos {r : Row} {n : Nat} (h : r.okW n) : 0 < r.beats := by
  cases r <;> simp [Row.beats, Row.okW, rg] at h ⊢ <;> omega
theorem WkOk.start {n : Nat} {k : Wk} (h : WkOk n k) : WkOk n k.start := by
  unfold Wk.start
  split
  · exact h
  · exact h
theorem WkOk.move {n : Nat} {k : Wk} {ws : List Int} (h : WkOk n k) : WkOk n (k.move ws).1 := by
  unfold Wk.move
  cases k.hand <;> exact h
theorem askAll_ok {b : Int} {n : Nat} : ∀ {as : List (Int × Int)} {ks : List Wk}, (∀ k ∈ ks, WkOk n k) → ∀ k ∈ askAll b ks as, WkOk n k
  | [], ks, h => h
  | a :: r, ks, h => by
    show ∀ k ∈ askAll b (askOne b ks a) r, WkOk n k
    refine askAll_ok (fun k hk => ?_)
    unfold askOne at hk
    split at hk
    · exact all_modify (fun x hx => hx.start) h k hk
    · exact h k hk
theorem askAll_len {b : Int} : ∀ {as : List (Int × Int)} {ks : List Wk}, (askAll b ks as).length = ks.length
  | [], ks => rfl
  | a :: r, ks => by
    show (askAll b (askOne b ks a) r).length = ks.length
    rw [askAll_len]
    unfold askOne
    split
    · exact List.length_modify _ _ _
    · rfl
theorem devMove_ok {n : Nat} {ks : List Wk} {took wanted : Bool} {ms : List Bool} {ws : List Int} (h : ∀ k ∈ ks, WkOk n k) : ∀ k ∈ (devMove ks took wanted ms ws).1, WkOk n k := by
  unfold devMove
  cases ks.findIdx? (takes ms wanted took) with
  | none => exact h
  | some j =>
    cases hk : ks[j]? with
    | none => simp only [hk]; exact h
    | some k =>
      have hk' := h k (List.mem_of_getElem? hk)
      simp only [hk]
      split
      · exact all_set h hk'.move
      · split
        · exact all_set h hk'.move
        · exact all_modify (fun x hx => hx.start) (all_set h hk'.move)
theorem devMove_len {ks : List Wk} {took wanted : Bool} {ms : List Bool} {ws : List Int} : (devMove ks took wanted ms ws).1.length = ks.length ∧ (devMove ks took wanted ms ws).2.2.1.length = ws.length := by
  unfold devMove
  cases ks.findIdx? (takes ms wanted took) with
  | none => exact ⟨rfl, rfl⟩
  | some j =>
    cases hk : ks[j]? with
    | none => simp [hk]
    | some k =>
      simp only [hk]
      constructor
      · split
        · simp
        · split <;> simp
      · unfold Wk.move
        cases k.hand <;> simp
theorem eff_ks_ok {n m : Nat} {S : MS} {ks : List Wk} {r : Row} (h : ∀ k ∈ ks, WkOk n k) : ∀ k ∈ (eff m S ks r).2, WkOk n k := by
  cases r <;> first | exact h | exact all_modify (fun x hx => hx.start) h
theorem eff_len {m : Nat} {S : MS} {ks : List Wk} {r : Row} : (eff m S ks r).2.length = ks.length := by
  cases r <;> first | rfl | exact List.length_modify _ _ _
theorem eff_m {prog : List Row} {S : MS} {ks : List Wk} {r : Row} (ok : r.okW prog.length) (hr : 0 ≤ S.row) (hn : S.row < prog.length) : (eff prog.length S ks r).1.cells.length = S.cells.length ∧ (eff prog.length S ks r).1.marks.length = S.marks.length ∧
    0 ≤ (eff prog.length S ks r).1.row ∧ (eff prog.length S ks r).1.row ≤ prog.length ∧ (eff prog.length S ks r).1.spent = 0 := by
  cases r <;> simp [eff, Row.okW] at ok ⊢ <;> first | omega | (split <;> omega)
theorem tick_m {prog : List Row} {S : MS} {ks : List Wk} {r : Row} (ok : r.okW prog.length) (hr : 0 ≤ S.row) (hn : prog[S.row.toNat]? = some r) (h0 : 0 ≤ S.spent) (h1 : S.spent ≤ r.beats) (c4 : S.cells.length = 4) (m3 : S.marks.length = 3) (hp : ∀ r ∈ prog, r.okW prog.length) :
    MOk prog (tick prog.length S ks r).1 := by
  have hlt : S.row < prog.length := by
    have := (List.getElem?_eq_some_iff.mp hn).1
    omega
  unfold tick
  split
  · obtain ⟨a1, a2, a3, a4, a5⟩ := eff_m (ks := ks) ok hr hlt
    exact ⟨by rw [a1]; exact c4, by rw [a2]; exact m3, a3, a4, by rw [a5]; exact Int.le_refl 0, fun r' h' => by rw [a5]; exact Row.beats_pos (hp r' (List.mem_of_getElem? h')), hp⟩
  · rename_i hne
    refine ⟨c4, m3, hr, Int.le_of_lt hlt, h0, fun r' h' => ?_, hp⟩
    have e : r' = r := by
      have h'' : prog[S.row.toNat]? = some r' := h'
      rw [hn] at h''
      exact (Option.some.inj h'').symm
    rw [e]
    show S.spent < r.beats
    omega
theorem useW_len {z : Str} {p cl : Int} {cells ws : List Int} : (useW z p cl cells ws).1.length = cells.length ∧ (useW z p cl cells ws).2.1.length = ws.length := by
  unfold useW
  split <;> simp
theorem tick_ks {n m : Nat} {S : MS} {ks : List Wk} {r : Row} (h : ∀ k ∈ ks, WkOk n k) : ∀ k ∈ (tick m S ks r).2, WkOk n k := by
  unfold tick
  split
  · exact eff_ks_ok h
  · exact h
theorem tick_len {m : Nat} {S : MS} {ks : List Wk} {r : Row} : (tick m S ks r).2.length = ks.length := by
  unfold tick
  split
  · exact eff_len
  · rfl
theorem mstep_ok {prog : List Row} {S : MS} {ks : List Wk} {took : Bool} {ws : List Int} (O : MOk prog S) : MOk prog (mstep prog S ks took ws).1 := by
  unfold mstep
  cases e1 : prog[S.row.toNat]? with
  | none => exact O
  | some r =>
    have rok := O.rows r (List.mem_of_getElem? e1)
    have s1 := O.sp1 r e1
    have s0 := O.sp0
    cases hwd : r.word S.spent S.cells with
    | none =>
      simp only [hwd]
      exact tick_m rok O.row0 e1 (by show 0 ≤ S.spent + 1; omega) (by show S.spent + 1 ≤ _; omega) O.c4 O.m3 O.rows
    | some zz =>
      obtain ⟨z, p, cl⟩ := zz
      simp only [hwd]
      split
      · exact O
      · exact tick_m rok O.row0 e1 (by show 0 ≤ S.spent + 1; omega) (by show S.spent + 1 ≤ _; omega) (by show (useW z p cl S.cells ws).1.length = 4; rw [useW_len.1]; exact O.c4) O.m3 O.rows
theorem mstep_ks {prog : List Row} {S : MS} {ks : List Wk} {took : Bool} {ws : List Int} {n : Nat} (h : ∀ k ∈ ks, WkOk n k) : ∀ k ∈ (mstep prog S ks took ws).2.1, WkOk n k := by
  unfold mstep
  cases e1 : prog[S.row.toNat]? with
  | none => exact h
  | some r =>
    cases hwd : r.word S.spent S.cells with
    | none => simp only [hwd]; exact tick_ks h
    | some zz =>
      obtain ⟨z, p, cl⟩ := zz
      simp only [hwd]
      split
      · exact h
      · exact tick_ks h
theorem mstep_len {prog : List Row} {S : MS} {ks : List Wk} {took : Bool} {ws : List Int} : (mstep prog S ks took ws).2.1.length = ks.length ∧ (mstep prog S ks took ws).2.2.1.length = ws.length := by
  unfold mstep
  cases e1 : prog[S.row.toNat]? with
  | none => exact ⟨rfl, rfl⟩
  | some r =>
    cases hwd : r.word S.spent S.cells with
    | none => simp only [hwd]; exact ⟨tick_len, trivial⟩
    | some zz =>
      obtain ⟨z, p, cl⟩ := zz
      simp only [hwd]
      split
      · exact ⟨rfl, rfl⟩
      · exact ⟨tick_len, useW_len.2⟩
theorem HOk.next {s : HS} (O : HOk s) : HOk s.next := by
  refine ⟨mstep_ok O.m, ?_, ?_, O.a, O.a8, ?_⟩
  · show 0 < s.ms.2.2.1.length
    unfold HS.ms
    rw [mstep_len.2]
    unfold HS.dm
    rw [devMove_len.2]
    exact O.w0
  · exact mstep_ks (devMove_ok (askAll_ok O.k))
  · show s.ms.2.1.length ≤ 6
    unfold HS.ms
    rw [mstep_len.1]
    unfold HS.dm
    rw [devMove_len.1, askAll_len]
    exact O.l6
end SB

set_option Elab.async false
set_option linter.all false
set_option maxRecDepth 100000
set_option maxHeartbeats 2000000
namespace SB
open PySem L2
structure FA where
  (h dh m dm pa c k lw al : Addr)
  (rs qs : List Addr)
  da : DA
def FA.own (a : FA) : List Addr := [a.h, a.m, a.c, a.k, a.lw]
def FA.foot (a : FA) : List Addr := a.own ++ a.da.foot
structure FlAt (K : PySem.W.Frag) (H : Hp) (a : FA) (s : HS) (g : GH) : Prop where
  ob : H a.h = some (.ins (cFloor K) a.dh (flF ⟨a.m, a.da.d, a.lw, a.al, s.beats⟩))
  mc : McAt K H a.m a.dm a.pa a.rs s.prog a.c a.k s.S
  dv : DevAt K H a.da s.ks s.took g
  wd : H a.lw = some (.lst (s.ws.map V.int))
  als : H a.al = some (.lst (a.qs.map V.ref))
  alen : a.qs.length = s.asks.length
  aat : ∀ (j : Nat) (t : Addr) (x : Int × Int), a.qs[j]? = some t → s.asks[j]? = some x → SqT K H t [.int x.1, .int x.2]
  nal : a.al ∉ a.foot
  ap : ∀ b ∈ a.own, b ∉ a.da.foot
  hm : a.h ≠ a.m
  wc : a.lw ≠ a.c
  wk : a.lw ≠ a.k
section
variable {P : Program} {w : World} {K : PySem.W.Frag} {mg : Str → Option Value} {base : Heap} {H H' : Hp} {a : FA} {s : HS} {g : GH}
theorem FlAt.inO (A : FlAt K H a s g) : ∀ b ∈ a.own, ∃ u, H b = some u ∧ notTup u = true := fun b hb => by
  unfold FA.own at hb
  simp only [List.mem_cons] at hb
  rcases hb with rfl | rfl | rfl | rfl | rfl | hb
  · exact ⟨_, A.ob, rfl⟩
  · exact ⟨_, A.mc.ob, rfl⟩
  · exact ⟨_, A.mc.hc, rfl⟩
  · exact ⟨_, A.mc.hk, rfl⟩
  · exact ⟨_, A.wd, rfl⟩
  · cases hb
theorem FlAt.inF (A : FlAt K H a s g) : ∀ b ∈ a.foot, ∃ u, H b = some u ∧ notTup u = true := fun b hb => by
  rcases List.mem_append.mp hb with hb | hb
  · exact A.inO b hb
  · exact A.dv.inF b hb
theorem ne_of_none' {a b : Addr} {o : HO} (h : H a = some o) (h' : H b = none) : b ≠ a := Ne.symm (ne_of_none h h')
theorem FlAt.change (A : FlAt K H a s g) {s' : HS} {da : DA} {g' : GH} (hp : s'.prog = s.prog) (ha : s'.asks = s.asks) (st : Stp a.own a.da.foot H da.foot H') (ob : H' a.h = some (.ins (cFloor K) a.dh (flF ⟨a.m, da.d, a.lw, a.al, s'.beats⟩)))
    (mc : McAt K H' a.m a.dm a.pa a.rs s'.prog a.c a.k s'.S) (dv : DevAt K H' da s'.ks s'.took g') (wd : H' a.lw = some (.lst (s'.ws.map V.int))) : FlAt K H' { a with da := da } s' g' := by
  refine ⟨ob, mc, dv, wd, st.kp _ _ A.als A.nal, by rw [ha]; exact A.alen, fun j t x h1 h2 => tup_keep (A.aat j t x h1 (by rw [← ha]; exact h2)) st.kp A.inF, fun z => ?_, fun b hb => ?_, A.hm, A.wc, A.wk⟩
  · have z' : a.al ∈ a.own ++ da.foot := z
    rcases List.mem_append.mp z' with z | z
    · exact A.nal (List.mem_append.mpr (.inl z))
    · exact st.apart A.als (fun y => A.nal (List.mem_append.mpr (.inr y))) z
  · obtain ⟨u, hu, _⟩ := A.inO b hb
    exact st.apart hu (A.ap b hb)
theorem FlAt.same (A : FlAt K H a s g) (e : Same H H') : FlAt K H' a s g := A.change (da := a.da) rfl rfl (Stp.same e) (e _ _ A.ob) (A.mc.same e) (A.dv.same e) (e _ _ A.wd)
theorem FlAt.stay (A : FlAt K H a s g) {as : List Addr} (k : Kept as H H') (h : ∀ b ∈ a.foot, b ∉ as) (h2 : a.al ∉ as) (hn : ∀ b ∈ as, ∃ u, H b = some u ∧ notTup u = true) : FlAt K H' a s g := by
  have ho : ∀ b ∈ a.own, b ∉ as := fun b hb => h b (List.mem_append.mpr (.inl hb))
  refine ⟨k _ _ A.ob (ho _ (by simp [FA.own])), A.mc.stay k (fun b hb => ho b (by
    simp only [List.mem_cons] at hb
    simp only [FA.own, List.mem_cons]
    rcases hb with h | h | h | h
    · exact .inr (.inl h)
    · exact .inr (.inr (.inl h))
    · exact .inr (.inr (.inr (.inl h)))
    · cases h)) hn, A.dv.stay k (fun b hb => h b (List.mem_append.mpr (.inr hb))) hn, k _ _ A.wd (ho _ (by simp [FA.own])), k _ _ A.als h2, A.alen, fun j t x h1 h2 => tup_keep (A.aat j t x h1 h2) k hn, A.nal, A.ap, A.hm, A.wc, A.wk⟩
def ToldB (H H' : Hp) (v : V) (x : Option (Int × Str × Int × Int)) (y : MT) : Prop := ∃ p v1 v2, v = .ref p ∧ H p = none ∧ H' p = some (.tup [v1, v2]) ∧ Told H H' v1 x ∧ ToldM H H' v2 y
theorem Told.keep {H H1 H2 : Hp} {v : V} {y : Option (Int × Str × Int × Int)} (t : Told H H1 v y) (h : ∀ q us, H1 q = some (.tup us) → H2 q = some (.tup us)) : Told H H2 v y := by
  cases y with
  | none => exact t
  | some z =>
    obtain ⟨z1, z2, z3, z4⟩ := z
    obtain ⟨q, e, h1, h2⟩ := t
    exact ⟨q, e, h1, h _ _ h2⟩
theorem Told.early {H0 H H1 : Hp} {v : V} {y : Option (Int × Str × Int × Int)} (t : Told H H1 v y) (h : ∀ b, H b = none → H0 b = none) : Told H0 H1 v y := by
  cases y with
  | none => exact t
  | some z =>
    obtain ⟨z1, z2, z3, z4⟩ := z
    obtain ⟨q, e, h1, h2⟩ := t
    exact ⟨q, e, h _ h1, h2⟩
theorem ToldM.early {H0 H H1 : Hp} {v : V} {y : MT} (t : ToldM H H1 v y) (h : ∀ b, H b = none → H0 b = none) : ToldM H0 H1 v y := by
  cases y with
  | word z a x =>
    obtain ⟨q, e, h1, h2⟩ := t
    exact ⟨q, e, h _ h1, h2⟩
  | _ => exact t
structure FLe (a a' : FA) : Prop where
  h : a'.h = a.h
  o : a'.own = a.own
  al : a'.al = a.al
  d : DLe a.da a'.da
theorem FLe.refl (a : FA) : FLe a a := ⟨rfl, rfl, rfl, DLe.refl _⟩
theorem FLe.trans {a b c : FA} (x : FLe a b) (y : FLe b c) : FLe a c := ⟨y.h.trans x.h, y.o.trans x.o, y.al.trans x.al, x.d.trans y.d⟩
theorem HOk.gl (O : HOk s) (g : GH) : (s.wake g).G.length < (s.wake g).nb + 100 := by
  have h := GH.startAll_len (ns := askedOf s) (g := ({ g with nb := g.G.length } : GH))
  have h8 : (askedOf s).length ≤ 8 := by
    unfold askedOf
    rw [List.length_map]
    exact Nat.le_trans (List.length_filter_le _ _) O.a8
  unfold HS.wake
  rw [h.2]
  have h1 := h.1
  show _ < g.G.length + 100
  have e : (({ g with nb := g.G.length } : GH)).G.length = g.G.length := rfl
  rw [e] at h1
  omega
theorem devG_len {ks : List Wk} {took wanted : Bool} {ms : List Bool} {ws : List Int} {when : Int} {g : GH} : (devG ks took wanted ms ws when g).G.length ≤ g.G.length + 1 ∧ (devG ks took wanted ms ws when g).nb = g.nb := by
  unfold devG
  cases ks.findIdx? (takes ms wanted took) with
  | none => simp
  | some j =>
    cases hk : ks[j]? with
    | none => simp only [hk]; simp
    | some k =>
      simp only [hk]
      have h1 := GH.move_len (g := g) (j := j) (k := k) (when := when) (ws := ws)
      split
      · omega
      · split
        · omega
        · rename_i f _
          have h2 := GH.start_len (g := g.move j k when ws) (n := f.toNat)
          omega
def sp_Floor_pass_beat (K : PySem.W.Frag) : Sp := fun vs H Q _ => ∃ (a : FA) (s : HS) (g : GH), vs = [.ref a.h] ∧ FlAt K H a s g ∧ HOk s ∧ ∀ H' a' v, FLe a a' → FlAt K H' a' s.next (s.gnext g) → Step a.foot H a'.foot H' → ToldB H H' v s.dm.2.2.2 s.ms.2.2.2 → Q v H'
def rowV (s : HS) : V := if s.S.row = s.prog.length then .non else .int s.S.row
structure ShownAt (H H' : Hp) (p c w' k g : Addr) (ps : List Addr) (s : HS) : Prop where
  tup : H' p = some (.tup [.int s.beats, rowV s, .ref c, .ref w', .ref k, .ref g])
  hc : H' c = some (.lst (s.S.cells.map V.int))
  hw : H' w' = some (.lst (s.ws.map V.int))
  hk : H' k = some (.lst (s.S.marks.map V.bl))
  hg : TupsAt H' g ps ((goFrom 0 s.ks).map goV)
  np : H p = none
  nc : H c = none
  nw : H w' = none
  nk : H k = none
  ng : H g = none
  nd : [c, w', k, g].Nodup
def sp_Floor_seen (K : PySem.W.Frag) : Sp := fun vs H Q _ => ∃ (a : FA) (s : HS) (g : GH), vs = [.ref a.h] ∧ FlAt K H a s g ∧ HOk s ∧ ∀ H' p c w' k g ps, ShownAt H H' p c w' k g ps s → Same H H' → Q (.ref p) H'
end
end SB

set_option Elab.async false
set_option linter.all false
set_option maxRecDepth 100000
set_option maxHeartbeats 2000000
namespace SB
open PySem L2
section
variable {P : Program} {w : World} {K : PySem.W.Frag} {mg : Str → Option Value} {base : Heap} {H H' : Hp} {a : FA} {s : HS} {g : GH}
def HS.at0 (prog : List Row) (asks : List (Int × Int)) (ks : List Wk) (ws : List Int) : HS := ⟨prog, asks, S0, ks.map Wk.fresh, false, ws, 0⟩
def sp_Floor_init (K : PySem.W.Frag) : Sp := fun vs H Q _ => ∃ (h dh pa wl ml al : Addr) (rs ts qs : List Addr) (prog : List Row) (ks : List Wk) (ws : List Int) (as : List (Int × Int)), vs = [.ref h, .ref pa, .ref wl, .ref ml, .ref al] ∧ H h = some (.ins (cFloor K) dh []) ∧
  ProgAt K H pa rs prog ∧ WorksAt K H wl ts ks ∧ ks.length ≤ 6 ∧ (∀ k ∈ ks, 0 < k.many ∧ k.many ≤ 16) ∧ SqL K H ml (ws.map V.int) ∧ AsksAt K H al qs as ∧
  ∀ H' (a : FA), a.h = h → FlAt K H' a (HS.at0 prog as ks ws) (GH.none ks.length) → (∀ b ∈ a.foot, b ≠ h → H b = none) → H a.al = none → Kept [h] H H' → Q .non H'
def sp_check_hall (K : PySem.W.Frag) : Sp := fun vs H Q _ => ∃ (pa wl ml al : Addr) (rs ts qs : List Addr) (prog : List Row) (ks : List Wk) (ws : List Int) (as : List (Int × Int)), vs = [.ref pa, .ref wl, .ref ml, .ref al] ∧
  ProgAt K H pa rs prog ∧ 0 < prog.length ∧ prog.length ≤ 40 ∧ (∀ r ∈ prog, r.ok prog.length) ∧ WorksAt K H wl ts ks ∧ ks.length ≤ 6 ∧ (∀ k ∈ ks, WOk ks.length k) ∧ SqL K H ml (ws.map V.int) ∧ 4 ≤ ws.length ∧ ws.length ≤ 32 ∧ (∀ x ∈ ws, rg 0 999 x) ∧ AsksAt K H al qs as ∧ AOk ks.length as ∧ ∀ H', Same H H' → Q .non H'
theorem ok_check_hall (T : T w K mg) : FnR P w K mg base CX0 5 (He.ga K "check_hall") (sp_check_hall K) := by
  have F_check_program : FnR P w K mg base CX0 4 _ _ := ok_check_program T
  have F_check_works : FnR P w K mg base CX0 4 _ _ := ok_check_works T
  have F_check_memory : FnR P w K mg base CX0 3 _ _ := ok_check_memory T
  have F_check_asks : FnR P w K mg base CX0 4 _ _ := ok_check_asks T
  obtain ⟨fd, F⟩ := T.f_check_hall
  refine F.r sc_check_hall (fun _ _ _ _ _ _ us hl => match us, hl with | [_, _, _, _], _ => rfl) (fun vs H Q E h => ?_) (fun cdv A outer s0 H vs Q E hr h => ?_)
  · obtain ⟨_, _, _, _, _, _, _, _, _, _, _, rfl, _⟩ := h
    rfl
  · obtain ⟨pa, wl, ml, al, rs, ts, qs, prog, ks, ws, as, rfl, Pr, p0, p40, pok, W, w6, wok, Ml, m4, m32, mok, As, aok, q⟩ := h
    refine ⟨_, (pss_cons (ps_expr (pe_callR F_check_program (hr.mono (by decide)) rfl T.g_check_program T.k_check_program (pa_cons (pv 0) pa_nil)))
      (pss_cons (ps_expr (pe_callR F_check_works (hr.mono (by decide)) rfl T.g_check_works T.k_check_works (pa_cons (pv 1) pa_nil)))
      (pss_cons (ps_expr (pe_callR F_check_memory (hr.mono (by decide)) rfl T.g_check_memory T.k_check_memory (pa_cons (pv 2) pa_nil)))
      (pss_one (ps_expr (pe_callR F_check_asks (hr.mono (by decide)) rfl T.g_check_asks T.k_check_asks (pa_cons (pv 3) (pa_cons (pv 1) pa_nil)))))))), ?_⟩
    refine ⟨_, rfl, pa, rs, prog, rfl, Pr, p0, p40, pok, fun H1 s1 => ?_⟩ -- check_program(program)
    refine ⟨_, rfl, wl, ts, ks, rfl, W.same s1, w6, wok, fun H2 s2' => ?_⟩ -- check_works(works)
    have s2 := s1.trans s2'
    refine ⟨_, rfl, ml, ws, rfl, s2.seq Ml, m4, m32, mok, ?_⟩ -- check_memory(memory)
    refine ⟨_, rfl, _, rfl, al, wl, qs, ts, as, ks, rfl, As.same s2, W.same s2, aok, fun H3 s3' => ?_⟩ -- check_asks(asks, works)
    exact q _ (s2.trans s3')
structure HA where
  (h dh : Addr)
  f : FA
def HA.al (a : HA) : Addr := a.f.al
def HA.foot (a : HA) : List Addr := [a.h] ++ a.f.foot
structure HallAt (K : PySem.W.Frag) (H : Hp) (a : HA) (s : HS) (g : GH) : Prop where
  ob : H a.h = some (.ins (cHall K) a.dh (hlF ⟨a.f.h⟩))
  fl : FlAt K H a.f s g
  nh : a.h ∉ a.f.foot
section
variable {a a' : HA}
theorem HallAt.als (L : HallAt K H a s g) : H a.al = some (.lst (a.f.qs.map V.ref)) := L.fl.als
theorem HallAt.inF (L : HallAt K H a s g) : ∀ b ∈ a.foot, ∃ u, H b = some u ∧ notTup u = true := fun b hb => by
  rcases List.mem_append.mp hb with hb | hb
  · have e : b = a.h := by simpa using hb
    rw [e]
    exact ⟨_, L.ob, rfl⟩
  · exact L.fl.inF b hb
theorem HallAt.nal (L : HallAt K H a s g) : a.al ∉ a.foot := fun z => by
  rcases List.mem_append.mp z with z | z
  · have e : a.al = a.h := by simpa using z
    exact (lst_ne_ins L.als L.ob) e
  · exact L.fl.nal z
theorem HallAt.same (L : HallAt K H a s g) (e : Same H H') : HallAt K H' a s g := ⟨e _ _ L.ob, L.fl.same e, L.nh⟩
theorem HallAt.stay (L : HallAt K H a s g) {as : List Addr} (k : Kept as H H') (h : ∀ b ∈ a.foot, b ∉ as) (h2 : a.al ∉ as) (hn : ∀ b ∈ as, ∃ u, H b = some u ∧ notTup u = true) : HallAt K H' a s g :=
  ⟨k _ _ L.ob (h _ (List.mem_append.mpr (.inl (List.mem_singleton.mpr rfl)))), L.fl.stay k (fun b hb => h b (List.mem_append.mpr (.inr hb))) h2 hn, L.nh⟩
structure HLe (a a' : HA) : Prop where
  h : a'.h = a.h
  al : a'.al = a.al
  f : FLe a.f a'.f
theorem HLe.refl (a : HA) : HLe a a := ⟨rfl, rfl, FLe.refl _⟩
theorem HLe.trans {a b c : HA} (x : HLe a b) (y : HLe b c) : HLe a c := ⟨y.h.trans x.h, y.al.trans x.al, x.f.trans y.f⟩
def sp_Hall_beat (K : PySem.W.Frag) : Sp := fun vs H Q _ => ∃ (a : HA) (s : HS) (g : GH), vs = [.ref a.h] ∧ HallAt K H a s g ∧ HOk s ∧ ∀ H' a' v, HLe a a' → HallAt K H' a' s.next (s.gnext g) → Step a.foot H a'.foot H' → ToldB H H' v s.dm.2.2.2 s.ms.2.2.2 → Q v H'
def sp_Hall_shown (K : PySem.W.Frag) : Sp := fun vs H Q _ => ∃ (a : HA) (s : HS) (g : GH), vs = [.ref a.h] ∧ HallAt K H a s g ∧ HOk s ∧ ∀ H' p c w' k g ps, ShownAt H H' p c w' k g ps s → Same H H' → Q (.ref p) H'
def sp_Hall_init (K : PySem.W.Frag) : Sp := fun vs H Q _ => ∃ (h dh pa wl ml al : Addr) (rs ts qs : List Addr) (prog : List Row) (ks : List Wk) (ws : List Int) (as : List (Int × Int)), vs = [.ref h, .ref pa, .ref wl, .ref ml, .ref al] ∧ H h = some (.ins (cHall K) dh []) ∧
  ProgAt K H pa rs prog ∧ 0 < prog.length ∧ prog.length ≤ 40 ∧ (∀ r ∈ prog, r.ok prog.length) ∧ WorksAt K H wl ts ks ∧ ks.length ≤ 6 ∧ (∀ k ∈ ks, WOk ks.length k) ∧ SqL K H ml (ws.map V.int) ∧ 4 ≤ ws.length ∧ ws.length ≤ 32 ∧ (∀ x ∈ ws, rg 0 999 x) ∧ AsksAt K H al qs as ∧ AOk ks.length as ∧
  ∀ H' (a : HA), a.h = h → HallAt K H' a (HS.at0 prog as ks ws) (GH.none ks.length) → (∀ b ∈ a.foot, b ≠ h → H b = none) → H a.al = none → Kept [h] H H' → Q .non H'
end
end
end SB

set_option Elab.async false
set_option linter.all false
set_option maxRecDepth 100000
namespace L2
open PySem PySem.Spec PyProof.Rows
theorem tuple_mul1 (l : Addr) (items : Array Value) (n : Nat) (dd : Option Addr) (sl : Array (Option Value)) (u : Tok) :
    Meets (Builtin.«tuple.__mul__» ⟨[.ref l, .int 1 u], []⟩) (fun _ R s => s.heap.get? l = some { cls := .type "tuple", dict := dd, data := .seq items n, slots := sl } ∧ R (.ok (.ret (Value.ref l))) s) :=
  .of_wp fun prog w A R s h => by
    obtain ⟨hp, g, d, tk, os⟩ := s
    obtain ⟨hl, h⟩ := h
    have f1 := AutoSeq1.idx_int
    have c1 : (items.isEmpty || (1 : Int) == 1) = true := by simp
    wp_walk using wpAny_loadPart' hl
    exact ⟨_, rfl, h⟩
theorem tuple_mul0 (l : Addr) (items : Array Value) (n : Nat) (dd : Option Addr) (sl : Array (Option Value)) (u : Tok) (c1 : (items.isEmpty || (0 : Int) == 1) = false) :
    Meets (Builtin.«tuple.__mul__» ⟨[.ref l, .int 0 u], []⟩) (fun _ R s => s.heap.get? l = some { cls := .type "tuple", dict := dd, data := .seq items n, slots := sl } ∧
      R (.ok (.ret (Value.ref s.heap.objs.size))) { s with heap := s.heap.push { cls := Value.type "tuple", data := Data.seq #[] }, toks := s.toks }) :=
  .of_wp fun prog w A R s h => by
    obtain ⟨hp, g, d, tk, os⟩ := s
    obtain ⟨hl, h⟩ := h
    have f1 := AutoSeq1.idx_int
    wp_walk using wpAny_loadPart' hl
    repeat (first
      | (refine wpAny_ite_false (decide_eq_false (by rw [c1]; exact Bool.false_ne_true)) ?_; wp_walk using wpAny_loadPart' hl))
    exact ⟨_, rfl, h⟩
def rRepA (K : PySem.W.Frag) : R2 := fun x y H Q => ∃ l k xs, x = .ref l ∧ y = .int k ∧ SqT K H l xs ∧ xs ≠ [] ∧ 0 ≤ k ∧ k ≤ 1000 ∧ xs.length ≤ 1000 ∧ (k = 1 → Q (.ref l) H) ∧ (k ≠ 1 → ∀ p, H p = none → Q (.ref p) (upd H p (.tup (List.replicate k.toNat xs).flatten)))
theorem op_repA {X : Cx} : OpR X (binaryOp .Mult) (rRepA X.K) := by
  intro pins s σ H x y v u Q I rx ry h
  obtain ⟨l, k, xs, rfl, rfl, hT, hne, h1, h2, hz, q1, q2⟩ := h
  by_cases hk2 : 2 ≤ k
  · exact op_repT pins s σ H _ _ v u Q I rx ry ⟨l, k, xs, rfl, rfl, hT, hne, hk2, h2, hz, q2 (by omega)⟩
  · cases rx
    obtain ⟨t, rfl⟩ := ry
    obtain ⟨its, r, ⟨⟨cls, dd, data, sl⟩, ho, hc, n, hd⟩, hs⟩ := I.tuple hT
    simp only at hc hd
    subst hc hd
    have hle : its.length = xs.length := r.length.symm
    have hi : its.toArray.isEmpty = false := by
      cases its with
      | nil => exact absurd (List.eq_nil_of_length_eq_zero (by rw [← hle]; rfl)) hne
      | cons a b => rfl
    by_cases hk1 : k = 1
    · subst hk1
      refine wpAny_binaryOp_repeat_ref (T := "tuple") (U := "int") (by decide) ⟨_, ho, rfl⟩ (fun s' => typeIs_int s' 1 t) noFill_tuple_mul F.fills_int_mul F.slot_int_rmul repeat_tuple F.slot_int_index.lookup
        (call_meets F.slot_int_rmul (typeIs_int s 1 t) F.entry_int_rmul (F.args_int_rmul_2 _ _) (int_rmul_tuple 1 t l its.toArray n dd sl)
          ⟨ho, rfl, ⟨_, ho, rfl⟩, call_meets F.slot_tuple_mul ⟨_, ho, rfl⟩ F.entry_tuple_mul (F.args_tuple_mul_2 _ _) (tuple_mul1 l its.toArray n dd sl t) ⟨ho, ?_⟩⟩)
      exact ⟨.ref l, H, I, rfl, q1 rfl⟩
    · have hk0 : k = 0 := by omega
      subst hk0
      refine wpAny_binaryOp_repeat_ref (T := "tuple") (U := "int") (by decide) ⟨_, ho, rfl⟩ (fun s' => typeIs_int s' 0 t) noFill_tuple_mul F.fills_int_mul F.slot_int_rmul repeat_tuple F.slot_int_index.lookup
        (call_meets F.slot_int_rmul (typeIs_int s 0 t) F.entry_int_rmul (F.args_int_rmul_2 _ _) (int_rmul_tuple 0 t l its.toArray n dd sl)
          ⟨ho, rfl, ⟨_, ho, rfl⟩, call_meets F.slot_tuple_mul ⟨_, ho, rfl⟩ F.entry_tuple_mul (F.args_tuple_mul_2 _ _) (tuple_mul0 l its.toArray n dd sl t (by rw [hi]; rfl)) ⟨ho, ?_⟩⟩)
      refine ⟨.ref s.heap.objs.size, _, I.laid (t' := s.toks) (o := .tup []) (fun b ob q => Heap.get?_push_of_some _ q) (Nat.le_refl _) ?_, rfl, q2 (by decide) _ (I.hok.fresh (Nat.le_refl _))⟩
      exact ⟨Nat.zero_le _, [], .nil, IsTup.new _ _⟩
end L2

set_option Elab.async false
set_option linter.all false
set_option maxRecDepth 100000
set_option maxHeartbeats 2000000
namespace SB
open PySem L2
structure DiceAt (H : Hp) (d sl : Addr) (f p : Int) (cs : List Int) : Prop where
  ob : H d = some (.lst [.int f, .ref sl, .int p])
  ls : H sl = some (.lst (cs.map V.int))
  f0 : 0 ≤ f
  f1 : f < 2147483647
  p0 : 0 ≤ p
  ne : d ≠ sl
def pyInts (ns : List Int) : List PyData := ns.map PyData.int
theorem dp_ints {K : PySem.W.Frag} {H : Hp} : ∀ ns : List Int, DpAll K H (ns.map V.int) (pyInts ns)
  | [] => .nil
  | n :: r => .cons (.int n) (dp_ints r)
theorem canLay_ints : ∀ ns : List Int, PyData.canLayAll0 (pyInts ns) = true
  | [] => rfl
  | n :: r => by
    show (true && PyData.canLayAll0 (pyInts r)) = true
    rw [canLay_ints r]
    rfl
theorem depth_ints : ∀ ns : List Int, PyData.depthAll (pyInts ns) = 0
  | [] => rfl
  | n :: r => by
    show max 0 (PyData.depthAll (pyInts r)) = 0
    rw [depth_ints r]
    rfl
theorem shaped_ints (ns : List Int) : SeqAt.shaped (.list (pyInts ns)) = true := by
  show (PyData.canLayAll0 (pyInts ns) && decide (PyData.depthAll (pyInts ns) + 1 ≤ 64)) = true
  rw [canLay_ints, depth_ints]
  rfl
theorem eqv_nil (ns : List Int) : PyData.eqv (.list (pyInts ns)) (.list (pyInts [])) = ns.isEmpty := by
  cases ns <;> rfl
section
variable {P : Program} {w : World} {K : PySem.W.Frag} {mg : Str → Option Value} {base : Heap}
def sp_l_dice (K : PySem.W.Frag) : Sp := fun vs H Q _ => ∃ (a : Addr) (ns : List Int) (k : Int), vs = [.ref a, .int k] ∧ SqL K H a (ns.map V.int) ∧ 0 ≤ k ∧ k < 2147483647 ∧ ns.length ≤ 63 ∧
  ∀ H' d sl f, DiceAt H' d sl f 0 ns → H d = none → H sl = none → Same H H' → Q (.ref d) H'
theorem ok_l_dice (T : T w K mg) : FnR P w K mg base CX0 1 (He.ga K "_law_dice") (sp_l_dice K) := by
  obtain ⟨fd, F⟩ := T.f_l_dice
  refine F.r sc_l_dice (fun _ _ _ _ _ _ us hl => match us, hl with | [_, _], _ => rfl) (fun vs H Q E h => ?_) (fun cdv A outer s H vs Q E hr h => ?_)
  · obtain ⟨_, _, _, rfl, _⟩ := h
    rfl
  · obtain ⟨a, ns, k, rfl, hS, k0, k1, hlen, q⟩ := h
    refine ⟨_, (pss_cons (ps_set (i := 2) sc_l_dice.nd rfl (Or.inl rfl) (pv 1))
      (pss_cons (ps_for PassesOwn.never rfl (pi_list (pv 0)) (pg_name (i := 3) sc_l_dice.nd rfl (Or.inl rfl))
      (pss_one (ps_set (i := 2) sc_l_dice.nd rfl (Or.inl rfl) (pe_op op_mod (pe_op op_add (pe_op op_mul (pv 2) pe_int) (pe_callB call_abs rfl T.u_abs (by decide +kernel) (pa_cons (pv 3) pa_nil))) pe_int))))
      (pss_one (ps_ret (pe_lst (pa_cons (pv 2) (pa_cons (pe_callTy call_list_of rfl T.u_list (by decide +kernel) (pa_cons (pv 0) pa_nil)) (pa_cons pe_int pa_nil)))))))), ?_⟩
    refine ⟨_, rfl, ?_⟩ -- _law_k
    refine ⟨_, rfl, a, rfl, ⟨_, hS⟩, for_list (K := K) (a := a) (xs := ns.map V.int) (fun i σ H2 => ∃ (f : Int) (v : Option V), σ = [some (.ref a), some (.int k), some (.int f), v] ∧ H2 = H ∧ 0 ≤ f ∧ f < 2147483647) ⟨k, none, rfl, rfl, k0, k1⟩ (fun i σ H2 _ ⟨_, _, _, e, _⟩ => by rw [e]; exact hS) ?_ ?_⟩
    · rintro i x σ H2 hx ⟨f, v, rfl, rfl, f0, f1⟩
      rw [List.getElem?_map] at hx
      cases hy : ns[i]? with
      | none => rw [hy] at hx; cases hx
      | some y =>
        rw [hy] at hx
        cases hx
        refine ⟨_, rfl, _, _, rfl, rfl, .inr ⟨by decide, by decide⟩, ?_⟩
        refine ⟨_, rfl, _, rfl, _, _, rfl, rfl, _, _, rfl, rfl, (by show (0 : Int) < 2147483647; decide), ?_⟩
        exact ⟨_, _, rfl, rfl, Int.emod_nonneg _ (by decide), Int.emod_lt_of_pos _ (by decide)⟩
    · rintro σ H2 ⟨f, v, rfl, rfl, f0, f1⟩
      refine ⟨_, rfl, _, rfl, _, _, rfl, .inl hS, fun sl hsl => ?_⟩
      refine ⟨by show 3 ≤ sizeLine; decide, fun d hd => ?_⟩
      have dsl : d ≠ sl := fun z => by rw [z, upd_same] at hd; cases hd
      rw [upd_ne dsl] at hd
      exact q _ d sl f ⟨upd_same, by rw [upd_ne (Ne.symm dsl)]; exact upd_same, f0, f1, Int.le_refl 0, dsl⟩ hd hsl (Same.new (Same.new (Same.refl _) hsl) hd)
def sp_l_off (K : PySem.W.Frag) : Sp := fun vs H Q _ => ∃ (d sl : Addr) (f p : Int) (cs : List Int) (most : Int), vs = [.ref d, .int most] ∧ DiceAt H d sl f p cs ∧ cs.length ≤ 63 ∧ 0 < most ∧ most < 1073741824 ∧
  ∀ H' f' p' cs' v, DiceAt H' d sl f' p' cs' → cs'.length = cs.length → Kept [d, sl] H H' → 0 ≤ v → v < most → Q (.int v) H'
theorem ok_l_off (T : T w K mg) : FnR P w K mg base CX0 1 (He.ga K "_law_off") (sp_l_off K) := by
  obtain ⟨fd, F⟩ := T.f_l_off
  refine F.r sc_l_off (fun _ _ _ _ _ _ us hl => match us, hl with | [_, _], _ => rfl) (fun vs H Q E h => ?_) (fun cdv A outer s H vs Q E hr h => ?_)
  · obtain ⟨_, _, _, _, _, _, rfl, _⟩ := h
    rfl
  · obtain ⟨d, sl, f, p, cs, most, rfl, D, c63, m0, m1, q⟩ := h
    have hu := hr.units
    refine ⟨_, (pss_cons (ps_set (i := 2) sc_l_off.nd rfl (Or.inl rfl) (pe_op op_mod (pe_ix ix_list (pv 0) pe_int (fun _ _ => rfl)) (pe_callB (call_max2 rfl) rfl T.u_max (by decide +kernel) (pa_cons pe_int (pa_cons (pe_callB call_len_seq rfl T.u_len PySem.boot_len (pa_cons (pe_ix ix_list (pv 0) pe_int (fun _ _ => rfl)) pa_nil)) pa_nil)))))
      (pss_cons (ps_set (i := 3) sc_l_off.nd rfl (Or.inl rfl) (pe_ifExp (pt_cmpR (op_neD hu) (pe_ix ix_list (pv 0) pe_int (fun _ _ => rfl)) (pe_lst pa_nil) (nomark _)) (pe_ix ix_list (pe_ix ix_list (pv 0) pe_int (fun _ _ => rfl)) (pv 2) (fun _ _ => rfl)) pe_int))
      (pss_cons (ps_if (pt_cmpR op_ge (pv 3) (pe_op op_pow pe_int pe_int) (nomark _))
      (pss_cons (ps_asg (pe_op op_fdiv (pv 3) (pv 1)) (pg_sub (pe_ix ix_list (pv 0) pe_int (fun _ _ => rfl)) (pv 2) set_list))
      (pss_one (ps_ret (pe_op op_mod (pv 3) (pv 1)))))
      pss_nil)
      (pss_cons (ps_asg (pe_op op_mod (pe_op op_add (pe_op op_add (pe_op op_mul (pe_ix ix_list (pv 0) pe_int (fun _ _ => rfl)) pe_int) (pe_op op_mul (pv 3) pe_int)) pe_int) pe_int) (pg_sub (pv 0) pe_int set_list))
      (pss_cons (ps_asg (pe_op op_add (pe_ix ix_list (pv 0) pe_int (fun _ _ => rfl)) pe_int) (pg_sub (pv 0) pe_int set_list))
      (pss_one (ps_ret (pe_op op_mod (pe_op op_fdiv (pe_ix ix_list (pv 0) pe_int (fun _ _ => rfl)) pe_int) (pv 1))))))))), ?_⟩
    refine ⟨_, rfl, _, _, _, _, rfl, rfl, SqL.of D.ob, rfl, ?_⟩ -- _law_d[2]
    refine ⟨_, rfl, _, _, _, _, rfl, rfl, SqL.of D.ob, rfl, ?_⟩ -- _law_d[1]
    refine ⟨_, _, rfl, .inl (SqL.of D.ls), ?_⟩ -- len
    rw [List.length_map]
    refine ⟨_, _, rfl, ?_⟩ -- max
    generalize hmx : (if ((cs.length : Nat) : Int) > 1 then ((cs.length : Nat) : Int) else 1) = mx
    have mx0 : 0 < mx := by rw [← hmx]; split <;> omega
    have mxc : 0 < cs.length → mx ≤ cs.length := fun h => by rw [← hmx]; split <;> omega
    refine ⟨_, _, rfl, rfl, mx0, ?_⟩
    have a0 : 0 ≤ p % mx := Int.emod_nonneg _ (by omega)
    have a1 : p % mx < mx := Int.emod_lt_of_pos _ mx0
    refine ⟨_, rfl, _, _, _, _, rfl, rfl, SqL.of D.ob, rfl, ?_⟩ -- _law_d[1]
    refine ⟨by show 0 ≤ sizeLine; decide, fun e he => ?_⟩ -- []
    have D1s : Same H (upd H e (.lst [])) := Same.new (Same.refl H) he
    have D1 : DiceAt (upd H e (.lst [])) d sl f p cs := ⟨D1s _ _ D.ob, D1s _ _ D.ls, D.f0, D.f1, D.p0, D.ne⟩
    refine ⟨.list (pyInts cs), .list (pyInts []), .lst (SqL.of D1.ls) (dp_ints cs), .lst (SqL.of upd_same) (dp_ints []), shaped_ints cs, shaped_ints [], ?_⟩
    have k1 : Kept [d, sl] H (upd H e (.lst [])) := Kept.same D1s
    generalize upd H e (.lst []) = H1 at D1 k1
    refine ⟨_, rfl, ?_⟩
    have rest : ∀ (cell : Int), (0 < cs.length ∨ cell = 0) → tSeq (tIfS (tTest (tOp (rI0 fun i j => .bl (decide (j ≤ i))) (tVar 3) (tOp (rI CPow fun i j => .int (i ^ j.toNat)) (tC (.int 10)) (tC (.int 18)))))
        (tSeq (tAsg (tOp (rI CDiv fun i j => .int (i / j)) (tVar 3) (tVar 1)) (gSub (tOp (rIxL K) (tVar 0) (tC (.int 1))) (tVar 2) rSetL)) (tRet (tOp (rI (fun _ j => 0 < j) fun i j => .int (i % j)) (tVar 3) (tVar 1)))) tNext)
        (tSeq (tAsg (tOp (rI (fun _ j => 0 < j) fun i j => .int (i % j)) (tOp (rI0 fun i j => .int (i + j)) (tOp (rI0 fun i j => .int (i + j)) (tOp (rI CMul fun i j => .int (i * j)) (tOp (rIxL K) (tVar 0) (tC (.int 0))) (tC (.int 48271))) (tOp (rI CMul fun i j => .int (i * j)) (tVar 3) (tC (.int 69621)))) (tC (.int 11))) (tC (.int 2147483647))) (gSub (tVar 0) (tC (.int 0)) rSetL))
        (tSeq (tAsg (tOp (rI0 fun i j => .int (i + j)) (tOp (rIxL K) (tVar 0) (tC (.int 2))) (tC (.int 1))) (gSub (tVar 0) (tC (.int 2)) rSetL)) (tRet (tOp (rI (fun _ j => 0 < j) fun i j => .int (i % j)) (tOp (rI CDiv fun i j => .int (i / j)) (tOp (rIxL K) (tVar 0) (tC (.int 0))) (tC (.int 64))) (tVar 1)))))
        { nx := fun _ H' => Q .non H', rt := Q } [some (.ref d), some (.int most), some (.int (p % mx)), some (.int cell)] H1 := by
      intro cell hcell
      refine ⟨_, rfl, _, _, rfl, rfl, ⟨by decide, by decide, by decide⟩, _, _, rfl, rfl, _, rfl, ?_⟩
      refine ite2 (fun c1 => ?_) (fun c1 => ?_)
      · have hc0 : 0 < cs.length := by
          rcases hcell with h | h
          · exact h
          · exfalso
            have := of_decide_eq_true c1
            rw [h] at this
            exact absurd this (by decide)
        have hmx' := mxc hc0
        refine ⟨_, rfl, _, rfl, _, _, rfl, rfl, ⟨m0, m1⟩, ?_⟩
        refine ⟨_, rfl, _, _, _, _, rfl, rfl, SqL.of D1.ob, rfl, ?_⟩
        refine ⟨_, rfl, _, _, _, _, rfl, rfl, D1.ls, ix_ok a0 (by rw [List.length_map]; omega), ?_⟩
        rw [set_int]
        refine ⟨_, rfl, _, rfl, _, _, rfl, rfl, m0, ?_⟩
        exact q _ f p _ _ ⟨by rw [upd_ne D1.ne]; exact D1.ob, upd_same, D1.f0, D1.f1, D1.p0, D1.ne⟩ (by rw [List.length_set]) (k1.put (by simp)) (Int.emod_nonneg _ (by omega)) (Int.emod_lt_of_pos _ m0)
      · refine ⟨_, rfl, _, _, _, _, rfl, rfl, SqL.of D1.ob, rfl, _, _, rfl, rfl, .inr ⟨by decide, by decide⟩, ?_⟩
        refine ⟨_, rfl, _, _, rfl, rfl, .inr ⟨by decide, by decide⟩, _, _, rfl, rfl, _, _, rfl, rfl, _, _, rfl, rfl, (by show (0 : Int) < 2147483647; decide), ?_⟩
        refine ⟨_, rfl, _, _, _, _, rfl, rfl, D1.ob, rfl, ?_⟩
        obtain ⟨f', hf⟩ : ∃ f', (f * 48271 + cell * 69621 + 11) % 2147483647 = f' := ⟨_, rfl⟩
        have f0' : 0 ≤ f' := by rw [← hf]; exact Int.emod_nonneg _ (by decide)
        have f1' : f' < 2147483647 := by rw [← hf]; exact Int.emod_lt_of_pos _ (by decide)
        have D2 : DiceAt (upd H1 d (.lst [.int f', .ref sl, .int p])) d sl f' p cs := ⟨upd_same, by rw [upd_ne (Ne.symm D1.ne)]; exact D1.ls, f0', f1', D1.p0, D1.ne⟩
        have k2 : Kept [d, sl] H (upd H1 d (.lst [.int f', .ref sl, .int p])) := k1.put (by simp)
        show (tSeq _ _) _ _ (upd H1 d (.lst [.int ((f * 48271 + cell * 69621 + 11) % 2147483647), .ref sl, .int p]))
        rw [hf]
        generalize upd H1 d (.lst [.int f', .ref sl, .int p]) = H2 at D2 k2
        refine ⟨_, rfl, _, _, _, _, rfl, rfl, SqL.of D2.ob, rfl, _, _, rfl, rfl, ?_⟩
        refine ⟨_, rfl, _, _, _, _, rfl, rfl, D2.ob, rfl, ?_⟩
        have D3 : DiceAt (upd H2 d (.lst [.int f', .ref sl, .int (p + 1)])) d sl f' (p + 1) cs := ⟨upd_same, by rw [upd_ne (Ne.symm D2.ne)]; exact D2.ls, f0', f1', by have := D2.p0; omega, D2.ne⟩
        have k3 : Kept [d, sl] H (upd H2 d (.lst [.int f', .ref sl, .int (p + 1)])) := k2.put (by simp)
        refine ⟨_, rfl, _, _, _, _, rfl, rfl, SqL.of D3.ob, rfl, _, _, rfl, rfl, ⟨by decide, by decide⟩, ?_⟩
        refine ⟨_, rfl, _, _, rfl, rfl, m0, ?_⟩
        exact q _ _ _ cs _ D3 rfl k3 (Int.emod_nonneg _ (by omega)) (Int.emod_lt_of_pos _ m0)
    dsimp only
    rw [eqv_nil]
    cases hcs : cs.isEmpty with
    | true =>
      refine iteF ?_
      exact rest 0 (.inr rfl)
    | false =>
      have hc0 : 0 < cs.length := by
        cases cs with
        | nil => cases hcs
        | cons a b => simp
      have hmx' := mxc hc0
      refine iteT ?_
      refine ⟨_, rfl, _, _, _, _, rfl, rfl, SqL.of D1.ob, rfl, ?_⟩
      refine ⟨_, rfl, _, _, _, _, rfl, rfl, SqL.of D1.ls, at_int a0 (by omega), ?_⟩
      exact rest _ (.inl hc0)
theorem DiceAt.same {H H' : Hp} {d sl : Addr} {f p : Int} {cs : List Int} (D : DiceAt H d sl f p cs) (s : Same H H') : DiceAt H' d sl f p cs := ⟨s _ _ D.ob, s _ _ D.ls, D.f0, D.f1, D.p0, D.ne⟩
theorem DiceAt.keep {H H' : Hp} {d sl : Addr} {f p : Int} {cs : List Int} {as : List Addr} (D : DiceAt H d sl f p cs) (k : Kept as H H') (h1 : d ∉ as) (h2 : sl ∉ as) : DiceAt H' d sl f p cs := ⟨k _ _ D.ob h1, k _ _ D.ls h2, D.f0, D.f1, D.p0, D.ne⟩
end
end SB

set_option Elab.async false
set_option linter.all false
set_option maxRecDepth 100000
set_option maxHeartbeats 2000000
namespace SB
open PySem L2
def HS.after (s : HS) : Nat → HS
  | 0 => s
  | n + 1 => (s.after n).next
def HS.gafter (s : HS) (g : GH) : Nat → GH
  | 0 => g
  | n + 1 => (s.after n).gnext (s.gafter g n)
abbrev BeatE := Option (Int × Str × Int × Int) × MT
def HS.ent (s : HS) : BeatE := (s.dm.2.2.2, s.ms.2.2.2)
def HS.log (s : HS) (n : Nat) : List BeatE := (List.range n).map fun i => (s.after i).ent
theorem HS.log_len (s : HS) (n : Nat) : (s.log n).length = n := by unfold HS.log; rw [List.length_map, List.length_range]
theorem HS.log_succ (s : HS) (n : Nat) : s.log (n + 1) = s.log n ++ [(s.after n).ent] := by
  unfold HS.log
  rw [List.range_succ, List.map_append]
  rfl
theorem HOk.after {s : HS} (O : HOk s) : ∀ n, HOk (s.after n)
  | 0 => O
  | n + 1 => (O.after n).next
def TAt (H : Hp) (v : V) : Option (Int × Str × Int × Int) → Prop
  | none => v = .non
  | some (j, z, a, x) => ∃ p, v = .ref p ∧ H p = some (.tup [.int j, .str z, .int a, .int x])
def MAt (H : Hp) (v : V) : MT → Prop
  | .ends => v = .str "ends"
  | .waits => v = .str "waits"
  | .goes => v = .str "goes"
  | .word z a x => ∃ q, v = .ref q ∧ H q = some (.tup [.str z, .int a, .int x])
structure EntAt (H : Hp) (p : Addr) (e : BeatE) (v1 v2 : V) : Prop where
  tup : H p = some (.tup [v1, v2])
  t : TAt H v1 e.1
  m : MAt H v2 e.2
structure LogAt (H : Hp) (l : Addr) (ps : List Addr) (es : List BeatE) : Prop where
  lst : H l = some (.lst (ps.map V.ref))
  len : ps.length = es.length
  at_ : ∀ (j : Nat) (p : Addr) (e : BeatE), ps[j]? = some p → es[j]? = some e → ∃ v1 v2, EntAt H p e v1 v2
section
variable {P : Program} {w : World} {K : PySem.W.Frag} {mg : Str → Option Value} {base : Heap} {H H' : Hp} {as : List Addr}
def Tk (H H' : Hp) : Prop := ∀ b vs, H b = some (.tup vs) → H' b = some (.tup vs)
theorem Tk.of (k : Kept as H H') (hn : ∀ b ∈ as, ∃ u, H b = some u ∧ notTup u = true) : Tk H H' := fun b vs hb => k _ _ hb fun z => by
  obtain ⟨u, hu, nt⟩ := hn b z
  rw [hb] at hu
  cases hu
  cases nt
theorem Tk.same (s : Same H H') : Tk H H' := fun b vs hb => s _ _ hb
theorem Tk.trans {H'' : Hp} (a : Tk H H') (b : Tk H' H'') : Tk H H'' := fun c vs h => b _ _ (a _ _ h)
theorem TAt.keep {v : V} {x : Option (Int × Str × Int × Int)} (h : TAt H v x) (k : Tk H H') : TAt H' v x := by
  cases x with
  | none => exact h
  | some z =>
    obtain ⟨z1, z2, z3, z4⟩ := z
    obtain ⟨p, e, hp⟩ := h
    exact ⟨p, e, k _ _ hp⟩
theorem MAt.keep {v : V} {x : MT} (h : MAt H v x) (k : Tk H H') : MAt H' v x := by
  cases x with
  | word z a y =>
    obtain ⟨p, e, hp⟩ := h
    exact ⟨p, e, k _ _ hp⟩
  | ends => exact h
  | waits => exact h
  | goes => exact h
theorem EntAt.keep {p : Addr} {e : BeatE} {v1 v2 : V} (h : EntAt H p e v1 v2) (k : Tk H H') : EntAt H' p e v1 v2 := ⟨k _ _ h.tup, h.t.keep k, h.m.keep k⟩
theorem LogAt.keep {l : Addr} {ps : List Addr} {es : List BeatE} (h : LogAt H l ps es) (k : Tk H H') (hl : H' l = some (.lst (ps.map V.ref))) : LogAt H' l ps es :=
  ⟨hl, h.len, fun j p e e1 e2 => let ⟨v1, v2, x⟩ := h.at_ j p e e1 e2; ⟨v1, v2, x.keep k⟩⟩
theorem LogAt.same {l : Addr} {ps : List Addr} {es : List BeatE} (h : LogAt H l ps es) (s : Same H H') : LogAt H' l ps es := h.keep (Tk.same s) (s _ _ h.lst)
theorem LogAt.snoc {l : Addr} {ps : List Addr} {es : List BeatE} (h : LogAt H l ps es) {p : Addr} {e : BeatE} {v1 v2 : V} (k : Tk H H') (hp : EntAt H' p e v1 v2) (hl : H' l = some (.lst ((ps ++ [p]).map V.ref))) : LogAt H' l (ps ++ [p]) (es ++ [e]) := by
  refine ⟨hl, by simp [h.len], fun j q e' e1 e2 => ?_⟩
  by_cases hj : j < ps.length
  · rw [List.getElem?_append_left hj] at e1
    rw [List.getElem?_append_left (by rw [← h.len]; exact hj)] at e2
    obtain ⟨u1, u2, x⟩ := h.at_ j q e' e1 e2
    exact ⟨u1, u2, x.keep k⟩
  · have ej : j = ps.length := by
      have := (List.getElem?_eq_some_iff.mp e1).1
      rw [List.length_append] at this
      simp at this
      omega
    subst ej
    rw [List.getElem?_append_right (Nat.le_refl _), Nat.sub_self] at e1
    rw [List.getElem?_append_right (by rw [h.len]; exact Nat.le_refl _), h.len, Nat.sub_self] at e2
    have e5 : p = q := by simpa using e1
    have e6 : e = e' := by simpa using e2
    subst e5 e6
    exact ⟨v1, v2, hp⟩
structure NotIn (R : Addr) (a : HA) : Prop where
  f : R ∉ a.foot
  al : R ≠ a.al
variable {a : HA} {s : HS} {g : GH} {R : Addr} {xs : List V}
theorem HallAt.fresh (L : HallAt K H a s g) (hR : H R = none) : NotIn R a := by
  refine ⟨fun z => ?_, ne_of_none' L.als hR⟩
  obtain ⟨u, hu, _⟩ := L.inF R z
  rw [hR] at hu
  cases hu
theorem HallAt.keepR (L : HallAt K H a s g) (hR : H R = some (.lst xs)) (n : NotIn R a) (k : Kept [R] H H') : HallAt K H' a s g := L.stay k (fun b hb z => n.f (by
    have e : b = R := by simpa using z
    rw [← e]
    exact hb)) (by simpa using Ne.symm n.al) (fun b hb => by
    have e : b = R := by simpa using hb
    rw [e]
    exact ⟨_, hR, rfl⟩)
theorem NotIn.step {a' : HA} {o : HO} (n : NotIn R a) (le : HLe a a') (st : Step a.foot H a'.foot H') (h : H R = some o) : NotIn R a' := ⟨st.apart h n.f, by rw [le.al]; exact n.al⟩
theorem HallAt.nfoot (L : HallAt K H a s g) (hR : H R = none) : R ∉ a.foot := fun z => by
  obtain ⟨u, hu, _⟩ := L.inF R z
  rw [hR] at hu
  cases hu
theorem ToldB.ent {H0 : Hp} {v : V} (h : ToldB H0 H' v s.dm.2.2.2 s.ms.2.2.2) : ∃ p v1 v2, v = .ref p ∧ EntAt H' p s.ent v1 v2 ∧ H0 p = none := by
  obtain ⟨p, v1, v2, e, np, hp, t1, t2⟩ := h
  refine ⟨p, v1, v2, e, ⟨hp, ?_, ?_⟩, np⟩
  · show TAt H' v1 s.dm.2.2.2
    cases hx : s.dm.2.2.2 with
    | none => rw [hx] at t1; exact t1
    | some z =>
      rw [hx] at t1
      obtain ⟨z1, z2, z3, z4⟩ := z
      obtain ⟨y, e, _, hy⟩ := t1
      exact ⟨y, e, hy⟩
  · show MAt H' v2 s.ms.2.2.2
    cases hx : s.ms.2.2.2 with
    | word z a x =>
      rw [hx] at t2
      obtain ⟨y, e, _, hy⟩ := t2
      exact ⟨y, e, hy⟩
    | ends => rw [hx] at t2; exact t2
    | waits => rw [hx] at t2; exact t2
    | goes => rw [hx] at t2; exact t2
theorem ShownAt.out {H0 H1 H2 H3 : Hp} {p c w' k g : Addr} {gs : List Addr} {s : HS} (S : ShownAt H1 H2 p c w' k g gs s) (a : Same H0 H1) (b : Same H2 H3) : ShownAt H0 H3 p c w' k g gs s :=
  ⟨b _ _ S.tup, b _ _ S.hc, b _ _ S.hw, b _ _ S.hk, S.hg.keep b, Same.free a S.np, Same.free a S.nc, Same.free a S.nw, Same.free a S.nk, Same.free a S.ng, S.nd⟩
theorem at0_okW {prog : List Row} {ks : List Wk} {ws : List Int} {as : List (Int × Int)} (pok : ∀ r ∈ prog, r.okW prog.length) (k6 : ks.length ≤ 6) (wok : ∀ k ∈ ks, WOk ks.length k) (w4 : 4 ≤ ws.length) (ao : AOk ks.length as) : HOk (HS.at0 prog as ks ws) := by
  refine ⟨⟨rfl, rfl, Int.le_refl 0, by show (0 : Int) ≤ _; omega, Int.le_refl 0, fun r hr => Row.beats_pos (pok r (List.mem_of_getElem? hr)), pok⟩, by show 0 < ws.length; omega, fun k hk => ?_, fun x hx => (ao.each x hx).2.1, ao.len, by show (ks.map Wk.fresh).length ≤ 6; rw [List.length_map]; omega⟩
  obtain ⟨k0, hk0, rfl⟩ := List.mem_map.mp hk
  have o := wok k0 hk0
  refine ⟨?_, fun i hi => ?_, fun x hx => (o.fo x hx).1⟩
  · have := o.c.1
    show 0 < k0.block
    omega
  · have := o.mar i hi
    have a1 := this.1
    have a2 := this.2
    exact ⟨a1, by omega⟩
theorem at0_ok {prog : List Row} {ks : List Wk} {ws : List Int} {as : List (Int × Int)} (pok : ∀ r ∈ prog, r.ok prog.length) (k6 : ks.length ≤ 6) (wok : ∀ k ∈ ks, WOk ks.length k) (w4 : 4 ≤ ws.length) (ao : AOk ks.length as) : HOk (HS.at0 prog as ks ws) := at0_okW (fun r hr => (pok r hr).w) k6 wok w4 ao
end
end SB

set_option Elab.async false
set_option linter.all false
set_option maxRecDepth 100000
set_option maxHeartbeats 2000000
namespace SB
open PySem L2
def dT : Option (Int × Str × Int × Int) → PyData
  | none => .none
  | some (j, z, a, x) => .tuple [.int j, .str z, .int a, .int x]
def dM : MT → PyData
  | .ends => .str "ends"
  | .waits => .str "waits"
  | .goes => .str "goes"
  | .word z a x => .tuple [.str z, .int a, .int x]
def dE (e : BeatE) : PyData := .tuple [dT e.1, dM e.2]
def WdOk (z : Str) : Prop := z = "get" ∨ z = "put"
structure EOk (e : BeatE) : Prop where
  t : ∀ j z a x, e.1 = some (j, z, a, x) → WdOk z
  m : ∀ z a x, e.2 = .word z a x → WdOk z
theorem wd_lay {z : Str} (h : WdOk z) : PyData.canLay0 (.str z) = true := by
  rcases h with rfl | rfl <;> decide +kernel
theorem dT_lay {t : Option (Int × Str × Int × Int)} (h : ∀ j z a x, t = some (j, z, a, x) → WdOk z) : PyData.canLay0 (dT t) = true := by
  cases t with
  | none => rfl
  | some y =>
    obtain ⟨j, z, a, x⟩ := y
    have := wd_lay (h j z a x rfl)
    show (true && (PyData.canLay0 (.str z) && (true && (true && true)))) = true
    rw [this]
    rfl
theorem dM_lay {t : MT} (h : ∀ z a x, t = .word z a x → WdOk z) : PyData.canLay0 (dM t) = true := by
  cases t with
  | word z a x =>
    have := wd_lay (h z a x rfl)
    show (PyData.canLay0 (.str z) && (true && (true && true))) = true
    rw [this]
    rfl
  | ends => decide +kernel
  | waits => decide +kernel
  | goes => decide +kernel
theorem dE_lay {e : BeatE} (h : EOk e) : PyData.canLay0 (dE e) = true := by
  show (PyData.canLay0 (dT e.1) && (PyData.canLay0 (dM e.2) && true)) = true
  rw [dT_lay h.t, dM_lay h.m]
  rfl
theorem dT_deep (t : Option (Int × Str × Int × Int)) : PyData.depth (dT t) ≤ 1 := by
  cases t with
  | none => exact Nat.zero_le _
  | some y => obtain ⟨j, z, a, x⟩ := y; exact Nat.le_refl _
theorem dM_deep (t : MT) : PyData.depth (dM t) ≤ 1 := by
  cases t <;> first | exact Nat.zero_le _ | exact Nat.le_refl _
theorem dE_deep (e : BeatE) : PyData.depth (dE e) ≤ 2 := by
  have h1 := dT_deep e.1
  have h2 := dM_deep e.2
  show max (PyData.depth (dT e.1)) (max (PyData.depth (dM e.2)) 0) + 1 ≤ 2
  omega
theorem lay_all {α : Type} {f : α → PyData} : ∀ xs : List α, (∀ x ∈ xs, PyData.canLay0 (f x) = true) → PyData.canLayAll0 (xs.map f) = true
  | [], _ => rfl
  | x :: r, h => by
    show (PyData.canLay0 (f x) && PyData.canLayAll0 (r.map f)) = true
    rw [h x List.mem_cons_self, lay_all r (fun y hy => h y (List.mem_cons_of_mem _ hy))]
    rfl
theorem deep_all {α : Type} {f : α → PyData} {n : Nat} (h : ∀ x, PyData.depth (f x) ≤ n) : ∀ xs : List α, PyData.depthAll (xs.map f) ≤ n
  | [] => Nat.zero_le _
  | x :: r => by
    have h1 := h x
    have h2 := deep_all h r
    show max (PyData.depth (f x)) (PyData.depthAll (r.map f)) ≤ n
    omega
theorem shaped_all {α : Type} {f : α → PyData} {n : Nat} (hn : n < 64) (xs : List α) (h : ∀ x ∈ xs, PyData.canLay0 (f x) = true) (hd : ∀ x, PyData.depth (f x) ≤ n) : SeqAt.shaped (.list (xs.map f)) = true := by
  have := deep_all hd xs
  show (PyData.canLayAll0 (xs.map f) && decide (PyData.depthAll (xs.map f) + 1 ≤ 64)) = true
  rw [lay_all xs h, decide_eq_true (by omega)]
  rfl
theorem eqv_self {d : PyData} (h : SeqAt.shaped d = true) : PyData.eqv d d = true := SeqAt.eqv_refl d (SeqAt.canLay_of_shaped h)
section
variable {K : PySem.W.Frag} {H : Hp}
theorem dpAll_of {α : Type} {f : α → PyData} : ∀ (ps : List Addr) (es : List α), ps.length = es.length → (∀ (j : Nat) (p : Addr) (e : α), ps[j]? = some p → es[j]? = some e → Dp K H (.ref p) (f e)) → DpAll K H (ps.map V.ref) (es.map f)
  | [], [], _, _ => .nil
  | [], _ :: _, h, _ => by simp at h
  | _ :: _, [], h, _ => by simp at h
  | p :: ps, e :: es, h, g => .cons (g 0 p e rfl rfl) (dpAll_of ps es (by simpa using h) (fun j q d h1 h2 => g (j + 1) q d (by simpa using h1) (by simpa using h2)))
theorem TAt.dp {v : V} {t : Option (Int × Str × Int × Int)} (h : TAt H v t) : Dp K H v (dT t) := by
  cases t with
  | none =>
    have e : v = .non := h
    rw [e]
    exact .non
  | some y =>
    obtain ⟨j, z, a, x⟩ := y
    obtain ⟨p, rfl, hp⟩ := h
    exact .tup (SqT.of hp) (.cons (.int _) (.cons (.str _) (.cons (.int _) (.cons (.int _) .nil))))
theorem MAt.dp {v : V} {t : MT} (h : MAt H v t) : Dp K H v (dM t) := by
  cases t with
  | word z a x =>
    obtain ⟨p, rfl, hp⟩ := h
    exact .tup (SqT.of hp) (.cons (.str _) (.cons (.int _) (.cons (.int _) .nil)))
  | ends => have e : v = .str "ends" := h; rw [e]; exact .str _
  | waits => have e : v = .str "waits" := h; rw [e]; exact .str _
  | goes => have e : v = .str "goes" := h; rw [e]; exact .str _
theorem EntAt.dp {p : Addr} {e : BeatE} {v1 v2 : V} (h : EntAt H p e v1 v2) : Dp K H (.ref p) (dE e) := .tup (SqT.of h.tup) (.cons h.t.dp (.cons h.m.dp .nil))
theorem LogAt.dpAll {l : Addr} {ps : List Addr} {es : List BeatE} (h : LogAt H l ps es) : DpAll K H (ps.map V.ref) (es.map dE) :=
  dpAll_of ps es h.len (fun j p e h1 h2 => let ⟨_, _, x⟩ := h.at_ j p e h1 h2; x.dp)
end
theorem word_ok {r : Row} {spent : Int} {cells : List Int} {z : Str} {p c : Int} (h : r.word spent cells = some (z, p, c)) : WdOk z := by
  cases r <;> simp [Row.word] at h <;> first | exact .inl h.1.symm | exact .inr h.1.symm
theorem ent_ok (s : HS) : EOk s.ent := by
  constructor
  · intro j z a x h
    have h' : s.dm.2.2.2 = some (j, z, a, x) := h
    unfold HS.dm devMove at h'
    cases e : (askAll s.beats s.ks s.asks).findIdx? (takes s.S.marks (wantedOf s.prog s.S).isSome s.took) with
    | none => rw [e] at h'; cases h'
    | some i =>
      rw [e] at h'
      cases e2 : (askAll s.beats s.ks s.asks)[i]? with
      | none => simp only [e2] at h'; cases h'
      | some k =>
        simp only [e2] at h'
        have h2 := Option.some.inj h'
        unfold Wk.move at h2
        cases e3 : k.hand with
        | none =>
          rw [e3] at h2
          simp only [Prod.mk.injEq] at h2
          exact .inl h2.2.1.symm
        | some y =>
          rw [e3] at h2
          simp only [Prod.mk.injEq] at h2
          exact .inr h2.2.1.symm
  · intro z a x h
    have h' : s.ms.2.2.2 = .word z a x := h
    unfold HS.ms mstep at h'
    cases e : s.prog[s.S.row.toNat]? with
    | none => rw [e] at h'; cases h'
    | some r =>
      rw [e] at h'
      cases e2 : r.word s.S.spent s.S.cells with
      | none => simp only [e2] at h'; cases h'
      | some y =>
        obtain ⟨y1, y2, y3⟩ := y
        simp only [e2] at h'
        split at h'
        · cases h'
        · cases h'
          exact word_ok e2
theorem log_lay (s : HS) (n : Nat) : ∀ e ∈ s.log n, PyData.canLay0 (dE e) = true := fun e he => by
  unfold HS.log at he
  obtain ⟨i, _, rfl⟩ := List.mem_map.mp he
  exact dE_lay (ent_ok _)
theorem shaped_log {es : List BeatE} (h : ∀ e ∈ es, PyData.canLay0 (dE e) = true) : SeqAt.shaped (.list (es.map dE)) = true := shaped_all (by decide) es h dE_deep
theorem shaped_tolds {ts : List (Int × Str × Int × Int)} (h : ∀ t ∈ ts, WdOk t.2.1) : SeqAt.shaped (.list (ts.map fun t => dT (some t))) = true :=
  shaped_all (n := 1) (by decide) ts (fun t ht => dT_lay (fun j z a x e => by cases e; exact h _ ht)) (fun t => dT_deep _)
def tv (t : Int × Str × Int × Int) : List V := [.int t.1, .str t.2.1, .int t.2.2.1, .int t.2.2.2]
theorem tolds_dp {K : PySem.W.Frag} {H : Hp} {D : Addr} {ps : List Addr} {ts : List (Int × Str × Int × Int)} (h : TupsAt H D ps (ts.map tv)) : Dp K H (.ref D) (.list (ts.map fun t => dT (some t))) := by
  refine .lst (SqL.of h.lst) (dpAll_of ps ts (by rw [h.len, List.length_map]) (fun j p e h1 h2 => ?_))
  have := h.at_ j p (tv e) h1 (by rw [List.getElem?_map, h2]; rfl)
  obtain ⟨j, z, a, x⟩ := e
  exact .tup (SqT.of this) (.cons (.int _) (.cons (.str _) (.cons (.int _) (.cons (.int _) .nil))))
theorem TupsAt.push {H : Hp} {D p : Addr} {ps : List Addr} {vss : List (List V)} {vs : List V} (t : TupsAt H D ps vss) (hp : H p = some (.tup vs)) : TupsAt (upd H D (.lst ((ps ++ [p]).map V.ref))) D (ps ++ [p]) (vss ++ [vs]) := by
  have nD : ∀ {q : Addr} {us : List V}, H q = some (.tup us) → upd H D (.lst ((ps ++ [p]).map V.ref)) q = some (.tup us) := fun {q us} hq => by
    have h1 : q ≠ D := ne_of hq t.lst (by intro z; cases z)
    rw [upd_ne h1]
    exact hq
  refine ⟨upd_same, by simp [t.len], fun j q us e1 e2 => ?_⟩
  by_cases hj : j < ps.length
  · rw [List.getElem?_append_left hj] at e1
    rw [List.getElem?_append_left (by rw [← t.len]; exact hj)] at e2
    exact nD (t.at_ j q us e1 e2)
  · have ej : j = ps.length := by
      have := (List.getElem?_eq_some_iff.mp e1).1
      rw [List.length_append] at this
      simp at this
      omega
    subst ej
    rw [List.getElem?_append_right (Nat.le_refl _), Nat.sub_self] at e1
    rw [List.getElem?_append_right (by rw [t.len]; exact Nat.le_refl _), t.len, Nat.sub_self] at e2
    have e5 : p = q := by simpa using e1
    have e6 : vs = us := by simpa using e2
    subst e5 e6
    exact nD hp
theorem cut_take {xs : List V} {n : Nat} : cutV xs none (some (n : Int)) = xs.take n := by
  unfold cutV
  rw [HT.sIx_nat]
  show (xs.drop 0).take (min n xs.length - 0) = _
  rw [List.drop_zero, Nat.sub_zero]
  by_cases h : n ≤ xs.length
  · rw [Nat.min_eq_left h]
  · rw [Nat.min_eq_right (by omega), List.take_of_length_le (Nat.le_refl _), List.take_of_length_le (by omega)]
theorem cut_mid {xs : List V} {a b : Nat} (h : a + b ≤ xs.length) : cutV xs (some (a : Int)) (some ((a + b : Nat) : Int)) = (xs.drop a).take b := by
  unfold cutV
  rw [HT.sIx_nat, HT.sIx_nat, Nat.min_eq_left h, Nat.min_eq_left (show a ≤ xs.length by omega)]
  congr 1
  omega
end SB

set_option Elab.async false
set_option linter.all false
set_option maxRecDepth 100000
set_option maxHeartbeats 2000000
namespace SB
open PySem L2
section
variable {P : Program} {w : World} {K : PySem.W.Frag} {mg : Str → Option Value} {base : Heap}
theorem DiceAt.ned {H : Hp} {d sl : Addr} {f p : Int} {cs : List Int} (D : DiceAt H d sl f p cs) {y : Addr} (hy : H y = none) : y ∉ [d, sl] := by
  have a1 : y ≠ d := ne_of_none' D.ob hy
  have a2 : y ≠ sl := ne_of_none' D.ls hy
  simp [a1, a2]
theorem pick2 {H : Hp} {d sl : Addr} {f p : Int} {cs : List Int} {x y : Int} {σ : L2.St} {i : Nat} {Q : VK} (hσ : σ[i]? = some (some (.ref d))) (D : DiceAt H d sl f p cs) (c63 : cs.length ≤ 63) (x0 : 0 < x) (x1 : x < 1073741824) (y0 : 0 < y) (y1 : y < 1073741824)
    (q : ∀ H' f' p' cs' v, DiceAt H' d sl f' p' cs' → cs'.length = cs.length → Kept [d, sl] H H' → 0 ≤ v → (v < x ∨ v < y) → Q (.int v) H') :
    tCallR (sp_l_off K) (tCons (tVar i) (tCons (tOp (rIxL K) (tLst (tCons (tC (.int x)) (tCons (tC (.int y)) tNil))) (tCallR (sp_l_off K) (tCons (tVar i) (tCons (tC (.int 2)) tNil)))) tNil)) σ H Q := by
  refine ⟨_, hσ, by show 2 ≤ sizeLine; decide, fun b hb => ?_⟩
  have s1 : Same H (upd H b (.lst [.int x, .int y])) := Same.new (Same.refl H) hb
  refine ⟨_, hσ, d, sl, f, p, cs, 2, rfl, D.same s1, c63, by decide, by decide, fun H2 f2 p2 cs2 v D2 c2 k2 v0 v1 => ?_⟩
  have kb : H2 b = some (.lst [.int x, .int y]) := k2 _ _ upd_same (D.ned hb)
  obtain ⟨m, hm, m0, m1, mx⟩ : ∃ m : Int, atI ([.int x, .int y] : List V) v = some (.int m) ∧ 0 < m ∧ m < 1073741824 ∧ (m = x ∨ m = y) := by
    have : v = 0 ∨ v = 1 := by omega
    rcases this with rfl | rfl
    · exact ⟨x, rfl, x0, x1, .inl rfl⟩
    · exact ⟨y, rfl, y0, y1, .inr rfl⟩
  refine ⟨_, _, _, _, rfl, rfl, SqL.of kb, hm, ?_⟩
  refine ⟨d, sl, f2, p2, cs2, m, rfl, D2, by omega, m0, m1, fun H3 f3 p3 cs3 n D3 c3 k3 n0 n1 => ?_⟩
  exact q H3 f3 p3 cs3 n D3 (by omega) (((Kept.same s1).trans k2).trans k3) n0 (by rcases mx with e | e <;> rw [← e] <;> first | exact .inl n1 | exact .inr n1)
def sp_l_work (K : PySem.W.Frag) : Sp := fun vs H Q _ => ∃ (d sl : Addr) (f p : Int) (cs : List Int) (many : Int), vs = [.ref d, .int many] ∧ DiceAt H d sl f p cs ∧ cs.length ≤ 63 ∧ 1 ≤ many ∧ many ≤ 6 ∧
  ∀ H' f' p' cs' t k, DiceAt H' d sl f' p' cs' → cs'.length = cs.length → Kept [d, sl] H H' → H t = none → H' t = some (.tup k.vs) → WOk many.toNat k → Q (.ref t) H'
theorem ok_l_work (T : T w K mg) : FnR P w K mg base CX0 2 (He.ga K "_law_work") (sp_l_work K) := by
  have F_l_off : FnR P w K mg base CX0 1 _ _ := ok_l_off T
  obtain ⟨fd, F⟩ := T.f_l_work
  refine F.r sc_l_work (fun _ _ _ _ _ _ us hl => match us, hl with | [_, _], _ => rfl) (fun vs H Q E h => ?_) (fun cdv A outer s H vs Q E hr h => ?_)
  · obtain ⟨_, _, _, _, _, _, rfl, _⟩ := h
    rfl
  · obtain ⟨d, sl, f, p, cs, many, rfl, D, c63, m1, m6, q⟩ := h
    refine ⟨_, (pss_cons (ps_par rfl sc_l_work.nd (i := 2) (j := 3) rfl rfl (by decide) rfl rfl (pa_cons (pe_callR F_l_off (hr.mono (by decide)) rfl T.g_l_off T.k_l_off (pa_cons (pv 0) (pa_cons pe_int pa_nil))) (pa_cons (pe_callR F_l_off (hr.mono (by decide)) rfl T.g_l_off T.k_l_off (pa_cons (pv 0) (pa_cons (pv 1) pa_nil))) pa_nil)) rfl)
  (pss_cons (ps_par rfl sc_l_work.nd (i := 4) (j := 5) rfl rfl (by decide) rfl rfl (pa_cons (pe_cmpR op_eq (pe_callR F_l_off (hr.mono (by decide)) rfl T.g_l_off T.k_l_off (pa_cons (pv 0) (pa_cons pe_int pa_nil))) pe_int (nomark _)) (pa_cons (pe_cmpR op_eq (pe_callR F_l_off (hr.mono (by decide)) rfl T.g_l_off T.k_l_off (pa_cons (pv 0) (pa_cons pe_int pa_nil))) pe_int (nomark _)) pa_nil)) rfl)
  (pss_cons (ps_set (i := 6) sc_l_work.nd rfl (Or.inl rfl) (pe_op op_add pe_int (pe_callR F_l_off (hr.mono (by decide)) rfl T.g_l_off T.k_l_off (pa_cons (pv 0) (pa_cons (pe_ix ix_list (pe_lst (pa_cons pe_int (pa_cons pe_int pa_nil))) (pe_callR F_l_off (hr.mono (by decide)) rfl T.g_l_off T.k_l_off (pa_cons (pv 0) (pa_cons pe_int pa_nil))) (fun _ _ => rfl)) pa_nil)))))
  (pss_cons (ps_set (i := 7) sc_l_work.nd rfl (Or.inl rfl) (pe_ix ix_list (pe_lst (pa_cons pe_str (pa_cons pe_str (pa_cons pe_str (pa_cons pe_str pa_nil))))) (pe_callR F_l_off (hr.mono (by decide)) rfl T.g_l_off T.k_l_off (pa_cons (pv 0) (pa_cons pe_int pa_nil))) (fun _ _ => rfl)))
  (pss_cons (ps_asg (pe_lc (own := [("_law_k", 10)]) (g := gName 10) (tt := tYes) (te := tCallR (sp_l_off K) (tCons (tVar 0) (tCons (tOp (rIxL K) (tLst (tCons (tC (.int 8)) (tCons (tC (.int 32)) tNil))) (tCallR (sp_l_off K) (tCons (tVar 0) (tCons (tC (.int 2)) tNil)))) tNil))) rfl sc_l_work.nd (pi_range1 rfl T.u_range (pa_cons pe_int pa_nil))
      (blkOk_by (N := ["_law_d", "_law_many", "_law_mark", "_law_follow", "_law_has_mark", "_law_has_next", "_law_size", "_law_greed", "_law_begin", "_law_goal", "_law_k"]) (sc := defScope s_l_work) (by decide +kernel)) (fun _ _ _ _ _ => pg_name (i := 10) sc_l_work.nd rfl (Or.inl rfl)) (fun _ _ _ _ _ => pts_nil)
      (fun _ _ _ _ _ => pe_callR F_l_off (hr.mono (by decide)) rfl T.g_l_off T.k_l_off (pa_cons (pv 0) (pa_cons (pe_ix ix_list (pe_lst (pa_cons pe_int (pa_cons pe_int pa_nil))) (pe_callR F_l_off (hr.mono (by decide)) rfl T.g_l_off T.k_l_off (pa_cons (pv 0) (pa_cons pe_int pa_nil))) (fun _ _ => rfl)) pa_nil))))
    (pg_lst rfl (pgs_cons (pg_name (i := 8) sc_l_work.nd rfl (Or.inl rfl)) (pgs_cons (pg_name (i := 9) sc_l_work.nd rfl (Or.inl rfl)) pgs_nil))))
  (pss_one (ps_ret (pe_tup (pa_cons (pv 8) (pa_cons (pv 9) (pa_cons (pv 6) (pa_cons (pe_op op_add pe_int (pe_callR F_l_off (hr.mono (by decide)) rfl T.g_l_off T.k_l_off (pa_cons (pv 0) (pa_cons pe_int pa_nil)))) (pa_cons (pv 7) (pa_cons (pe_ifExp (pt_val (pv 4)) (pv 2) pe_non) (pa_cons (pe_ifExp (pt_val (pv 5)) (pv 3) pe_non) pa_nil))))))))))))))), ?_⟩
    refine ⟨_, rfl, d, sl, f, p, cs, 3, rfl, D, c63, by decide, by decide, fun H1 f1 p1 cs1 mk D1 c1 k1 mk0 mk1 => ?_⟩
    refine ⟨_, rfl, _, rfl, d, sl, f1, p1, cs1, many, rfl, D1, by omega, by omega, by omega, fun H2 f2 p2 cs2 fo D2 c2 k2 fo0 fo1 => ?_⟩
    refine ⟨_, _, rfl, ?_⟩
    refine ⟨_, rfl, d, sl, f2, p2, cs2, 2, rfl, D2, by omega, by decide, by decide, fun H3 f3 p3 cs3 hm0 D3 c3 k3 _ _ => ?_⟩
    refine ⟨rfl, ?_⟩
    refine ⟨_, rfl, d, sl, f3, p3, cs3, 3, rfl, D3, by omega, by decide, by decide, fun H4 f4 p4 cs4 hn0 D4 c4 k4 _ _ => ?_⟩
    refine ⟨rfl, ?_⟩
    refine ⟨_, _, rfl, ?_⟩
    generalize decide (V.int hm0 = V.int 0) = hm
    generalize decide (V.int hn0 = V.int 0) = hn
    have kk4 := ((k1.trans k2).trans k3).trans k4
    refine pick2 (i := 0) rfl D4 (by omega) (by decide) (by decide) (by decide) (by decide) (fun H5 f5 p5 cs5 sz D5 c5 k5 sz0 sz1 => ?_)
    refine ⟨_, _, rfl, rfl, ?_⟩
    refine ⟨by show 4 ≤ sizeLine; decide, fun e he => ?_⟩
    have s6 : Same H5 (upd H5 e (.lst [.str "all", .str "turn", .str "idle", .str "turn"])) := Same.new (Same.refl _) he
    have e6 : upd H5 e (.lst [.str "all", .str "turn", .str "idle", .str "turn"]) e = some (.lst [.str "all", .str "turn", .str "idle", .str "turn"]) := upd_same
    have ne := D5.ned he
    have D6 := D5.same s6
    generalize upd H5 e (.lst [.str "all", .str "turn", .str "idle", .str "turn"]) = H6 at s6 e6 D6
    refine ⟨_, rfl, d, sl, f5, p5, cs5, 4, rfl, D6, by omega, by decide, by decide, fun H7 f7 p7 cs7 g0 D7 c7 k7 g00 g01 => ?_⟩
    obtain ⟨gr, hgr, grok⟩ : ∃ gr : Str, atI ([.str "all", .str "turn", .str "idle", .str "turn"] : List V) g0 = some (.str gr) ∧ (gr = "all" ∨ gr = "turn" ∨ gr = "idle") := by
      have : g0 = 0 ∨ g0 = 1 ∨ g0 = 2 ∨ g0 = 3 := by omega
      rcases this with rfl | rfl | rfl | rfl
      · exact ⟨_, rfl, .inl rfl⟩
      · exact ⟨_, rfl, .inr (.inl rfl)⟩
      · exact ⟨_, rfl, .inr (.inr rfl)⟩
      · exact ⟨_, rfl, .inr (.inl rfl)⟩
    refine ⟨_, _, _, _, rfl, rfl, SqL.of (k7 _ _ e6 ne), hgr, ?_⟩
    have kk7 : Kept [d, sl] H H7 := ((kk4.trans k5).trans (Kept.same s6)).trans k7
    refine ⟨2, rfl, by decide, by decide, fun R hR => ?_⟩
    have nR := D7.ned hR
    have hR0 : H R = none := kk7.free hR nR
    have sR : Same H7 (upd H7 R (.lst [])) := Same.new (Same.refl _) hR
    refine lc_it walk_range (fun i H4 => ∃ (f4 p4 : Int) (cs4 ws : List Int), DiceAt H4 d sl f4 p4 cs4 ∧ cs4.length = cs.length ∧ Kept [d, sl] H H4 ∧ H4 R = some (.lst (ws.map V.int)) ∧ ws.length = i ∧ ∀ x ∈ ws, rg 0 31 x)
      ⟨f7, p7, cs7, [], D7.same sR, by omega, kk7.new hR0, upd_same, rfl, by simp⟩ (fun i H4 _ _ => trivial) ?_ ?_
    · rintro i x H8 H9 hi ⟨f4, p4, cs4, ws, D8, c8, k8, hR4, hl, hx⟩ ⟨rfl, rfl⟩
      refine ⟨rfl, yes ?_⟩
      refine pick2 (i := 0) rfl D8 (by omega) (by decide) (by decide) (by decide) (by decide) (fun H10 f10 p10 cs10 v D10 c10 k10 v0 v1 => ?_)
      have hR6 := k10 _ _ hR4 nR
      have Rd : R ≠ d := fun z => nR (by simp [z])
      have Rs : R ≠ sl := fun z => nR (by simp [z])
      refine ⟨_, hR6, by rw [List.length_map, hl]; exact Nat.lt_of_lt_of_le hi (by decide), f10, p10, cs10, ws ++ [v], ?_, by omega, (k8.trans k10).new hR0, ?_, by simp [hl], ?_⟩
      · exact ⟨by rw [upd_ne (Ne.symm Rd)]; exact D10.ob, by rw [upd_ne (Ne.symm Rs)]; exact D10.ls, D10.f0, D10.f1, D10.p0, D10.ne⟩
      · rw [upd_same, List.map_append]
        rfl
      · intro y hy
        rcases List.mem_append.mp hy with hy | hy
        · exact hx y hy
        · have e : y = v := by simpa using hy
          rw [e]
          exact ⟨v0, by rcases v1 with z | z <;> omega⟩
    · rintro H8 ⟨f8, p8, cs8, ws, D8, c8, k8, hR8, hl, hx⟩
      obtain ⟨b, g, rfl⟩ : ∃ b g, ws = [b, g] := match ws, hl with | [b, g], _ => ⟨b, g, rfl⟩
      refine ⟨R, _, rfl, SqL.of hR8, rfl, _, _, rfl, _, _, rfl, rfl, ?_⟩
      refine ⟨_, rfl, _, rfl, _, rfl, ?_⟩
      refine ⟨_, rfl, d, sl, f8, p8, cs8, 4, rfl, D8, by omega, by decide, by decide, fun H9 f9 p9 cs9 c0 D9 c9 k9 c00 c01 => ?_⟩
      refine ⟨_, _, rfl, rfl, ?_⟩
      refine ⟨_, rfl, ?_⟩
      have fin : ∀ (mk' fo' : Option Int), (∀ x, mk' = some x → rg 0 2 x) → (∀ x, fo' = some x → 0 ≤ x ∧ x < many) → ∀ t, H9 t = none → Q (.ref t) (upd H9 t (.tup [.int b, .int g, .int (1 + sz), .int (1 + c0), .str gr, oV mk', oV fo'])) := by
        intro mk' fo' hmk hfo t ht
        have kk9 := k8.trans k9
        have ht0 : H t = none := kk9.free ht (D9.ned ht)
        have st : Same H9 (upd H9 t (.tup [.int b, .int g, .int (1 + sz), .int (1 + c0), .str gr, oV mk', oV fo'])) := Same.new (Same.refl _) ht
        refine q _ f9 p9 cs9 t ⟨b, g, 1 + sz, 1 + c0, gr, mk', fo', false, 0, none⟩ (D9.same st) (by omega) (kk9.trans (Kept.same st)) ht0 upd_same ⟨hx b (by simp), hx g (by simp), ⟨by show 1 ≤ 1 + sz; omega, by show 1 + sz ≤ 16; rcases sz1 with z | z <;> omega⟩, ⟨by show 1 ≤ 1 + c0; omega, by show 1 + c0 ≤ 4; omega⟩, grok, hmk, fun x hx => ?_⟩
        have := hfo x hx
        exact ⟨this.1, by omega⟩
      have m2 : ∀ x, some mk = some x → rg 0 2 x := fun x hx => by cases hx; exact ⟨mk0, by omega⟩
      have f2' : ∀ x, some fo = some x → 0 ≤ x ∧ x < many := fun x hx => by cases hx; exact ⟨fo0, fo1⟩
      refine ⟨_, rfl, _, rfl, ?_⟩
      refine ite2 (fun a1 => ?_) (fun a1 => ?_)
      · refine ⟨_, rfl, _, rfl, _, rfl, ?_⟩
        refine ite2 (fun a2 => ?_) (fun a2 => ?_)
        · exact ⟨_, rfl, by show 7 ≤ sizeLine; decide, fun t ht => fin (some mk) (some fo) m2 f2' t ht⟩
        · exact ⟨by show 7 ≤ sizeLine; decide, fun t ht => fin (some mk) none m2 (fun x hx => nomatch hx) t ht⟩
      · refine ⟨_, rfl, _, rfl, ?_⟩
        refine ite2 (fun a2 => ?_) (fun a2 => ?_)
        · exact ⟨_, rfl, by show 7 ≤ sizeLine; decide, fun t ht => fin none (some fo) (fun x hx => nomatch hx) f2' t ht⟩
        · exact ⟨by show 7 ≤ sizeLine; decide, fun t ht => fin none none (fun x hx => nomatch hx) (fun x hx => nomatch hx) t ht⟩
def sp_l_works (K : PySem.W.Frag) : Sp := fun vs H Q _ => ∃ (d sl : Addr) (f p : Int) (cs : List Int) (most : Int), vs = [.ref d, .int most] ∧ DiceAt H d sl f p cs ∧ cs.length ≤ 63 ∧ 0 ≤ most ∧ most ≤ 6 ∧
  ∀ (H' : Hp) (f' p' : Int) (cs' : List Int) (wl : Addr) (ts : List Addr) (ks : List Wk), DiceAt H' d sl f' p' cs' → cs'.length = cs.length → Kept [d, sl] H H' → H wl = none → TupsAt H' wl ts (ks.map Wk.vs) → (∀ t ∈ ts, H t = none) → ks.length ≤ most.toNat → (∀ k ∈ ks, WOk ks.length k) → Q (.ref wl) H'
theorem ok_l_works (T : T w K mg) : FnR P w K mg base CX0 3 (He.ga K "_law_works") (sp_l_works K) := by
  have F_l_off : FnR P w K mg base CX0 1 _ _ := ok_l_off T
  have F_l_work : FnR P w K mg base CX0 2 _ _ := ok_l_work T
  obtain ⟨fd, F⟩ := T.f_l_works
  refine F.r sc_l_works (fun _ _ _ _ _ _ us hl => match us, hl with | [_, _], _ => rfl) (fun vs H Q E h => ?_) (fun cdv A outer s H vs Q E hr h => ?_)
  · obtain ⟨_, _, _, _, _, _, rfl, _⟩ := h
    rfl
  · obtain ⟨d, sl, f, p, cs, most, rfl, D, c63, m0, m6, q⟩ := h
    refine ⟨_, (pss_cons (ps_set (i := 2) sc_l_works.nd rfl (Or.inr rfl) (pe_callR F_l_off (hr.mono (by decide)) rfl T.g_l_off T.k_l_off (pa_cons (pv 0) (pa_cons (pe_op op_add (pv 1) pe_int) pa_nil))))
  (pss_one (ps_ret (pe_lc (own := [("_law_k", 3)]) (g := gName 3) (tt := tYes) (te := tCallR (sp_l_work K) (tCons (tVar 0) (tCons (tVar 2) tNil))) rfl sc_l_works.nd (pi_range1 rfl T.u_range (pa_cons (pv 2) pa_nil))
      (blkOk_by (N := ["_law_d", "_law_most", "_law_many", "_law_k"]) (sc := defScope s_l_works) (by decide +kernel)) (fun _ _ _ _ _ => pg_name (i := 3) sc_l_works.nd rfl (Or.inl rfl)) (fun _ _ _ _ _ => pts_nil)
      (fun _ _ _ _ _ => pe_callR F_l_work (hr.mono (by decide)) rfl T.g_l_work T.k_l_work (pa_cons (pv 0) (pa_cons (pv 2) pa_nil))))))), ?_⟩
    refine ⟨_, rfl, _, rfl, _, _, rfl, rfl, d, sl, f, p, cs, most + 1, rfl, D, c63, by omega, by omega, fun H1 f1 p1 cs1 n D1 c1 k1 n0 n1 => ?_⟩
    refine ⟨_, rfl, n, rfl, by omega, by omega, fun R hR => ?_⟩
    have nR := D1.ned hR
    have hR0 : H R = none := k1.free hR nR
    have sR : Same H1 (upd H1 R (.lst [])) := Same.new (Same.refl _) hR
    refine lc_it walk_range (fun i H4 => ∃ (f4 p4 : Int) (cs4 : List Int) (ts : List Addr) (ks : List Wk), DiceAt H4 d sl f4 p4 cs4 ∧ cs4.length = cs.length ∧ Kept [d, sl] H H4 ∧ TupsAt H4 R ts (ks.map Wk.vs) ∧ (∀ t ∈ ts, H t = none) ∧ ks.length = i ∧ ∀ k ∈ ks, WOk n.toNat k)
      ⟨f1, p1, cs1, [], [], D1.same sR, by omega, k1.new hR0, ⟨upd_same, rfl, fun j p vs e => by simp at e⟩, by simp, rfl, by simp⟩ (fun i H4 _ _ => trivial) ?_ ?_
    · rintro i x H4 H5 hi ⟨f4, p4, cs4, ts, ks, D4, c4, k4, tp, tf, hl, hx⟩ ⟨rfl, rfl⟩
      refine ⟨rfl, yes ?_⟩
      refine ⟨_, rfl, _, rfl, d, sl, f4, p4, cs4, n, rfl, D4, by omega, by omega, by omega, fun H6 f6 p6 cs6 t k D6 c6 k6 nt ht wk => ?_⟩
      have tk : Tk H5 H6 := Tk.of k6 (fun b hb => by
        have e : b = d ∨ b = sl := by simpa using hb
        rcases e with rfl | rfl
        · exact ⟨_, D4.ob, rfl⟩
        · exact ⟨_, D4.ls, rfl⟩)
      have hR6 := k6 _ _ tp.lst nR
      have tp6 : TupsAt H6 R ts (ks.map Wk.vs) := ⟨hR6, tp.len, fun j y vs e1 e2 => tk _ _ (tp.at_ j y vs e1 e2)⟩
      have Rd : R ≠ d := fun z => nR (by simp [z])
      have Rs : R ≠ sl := fun z => nR (by simp [z])
      refine ⟨_, hR6, by rw [List.length_map, tp.len, List.length_map, hl]; exact Nat.lt_of_lt_of_le hi (Nat.le_trans (show n.toNat ≤ 100 by omega) (by decide)), f6, p6, cs6, ts ++ [t], ks ++ [k], ?_, by omega, (k4.trans k6).new hR0, ?_, ?_, by simp [hl], ?_⟩
      · exact ⟨by rw [upd_ne (Ne.symm Rd)]; exact D6.ob, by rw [upd_ne (Ne.symm Rs)]; exact D6.ls, D6.f0, D6.f1, D6.p0, D6.ne⟩
      · have := tp6.push ht
        rw [List.map_append (l₁ := ts)] at this
        rw [List.map_append (l₁ := ks)]
        exact this
      · intro y hy
        rcases List.mem_append.mp hy with hy | hy
        · exact tf y hy
        · have e : y = t := by simpa using hy
          rw [e]
          refine k4.free nt fun z => ?_
          have e : t = d ∨ t = sl := by simpa using z
          rcases e with rfl | rfl
          · rw [D4.ob] at nt; cases nt
          · rw [D4.ls] at nt; cases nt
      · intro y hy
        rcases List.mem_append.mp hy with hy | hy
        · exact hx y hy
        · have e : y = k := by simpa using hy
          rw [e]
          exact wk
    · rintro H4 ⟨f4, p4, cs4, ts, ks, D4, c4, k4, tp, tf, hl, hx⟩
      exact q _ f4 p4 cs4 R ts ks D4 c4 k4 hR0 tp tf (by omega) (fun k hk => by rw [hl]; exact hx k hk)
end
end SB

set_option Elab.async false
set_option linter.all false
set_option maxRecDepth 100000
set_option maxHeartbeats 2000000
namespace SB
open PySem L2
def av (a : Int × Int) : List V := [.int a.1, .int a.2]
theorem sort_next : ∀ {ns : List Int}, ns.Pairwise (· ≤ ·) → ∀ (i : Nat) (x y : Int), ns[i]? = some x → ns[i + 1]? = some y → x ≤ y
  | [], _, i, x, y, h, _ => by simp at h
  | a :: r, hp, 0, x, y, h1, h2 => by
    have e : a = x := by simpa using h1
    have h2' : r[0]? = some y := by simpa using h2
    rw [← e]
    exact (List.pairwise_cons.mp hp).1 y (List.mem_of_getElem? h2')
  | a :: r, hp, i + 1, x, y, h1, h2 => sort_next (List.pairwise_cons.mp hp).2 i x y (by simpa using h1) (by simpa using h2)
section
variable {P : Program} {w : World} {K : PySem.W.Frag} {mg : Str → Option Value} {base : Heap}
def sp_l_asked (K : PySem.W.Frag) : Sp := fun vs H Q _ => ∃ (d sl : Addr) (f p : Int) (cs : List Int) (many : Int), vs = [.ref d, .int many] ∧ DiceAt H d sl f p cs ∧ cs.length ≤ 63 ∧ 0 ≤ many ∧ many ≤ 6 ∧
  ∀ (H' : Hp) (f' p' : Int) (cs' : List Int) (al : Addr) (qs : List Addr) (as : List (Int × Int)), DiceAt H' d sl f' p' cs' → cs'.length = cs.length → Kept [d, sl] H H' → H al = none → TupsAt H' al qs (as.map av) → AOk many.toNat as → Q (.ref al) H'
theorem ok_l_asked (T : T w K mg) : FnR P w K mg base CX0 2 (He.ga K "_law_asked") (sp_l_asked K) := by
  have F_l_off : FnR P w K mg base CX0 1 _ _ := ok_l_off T
  obtain ⟨fd, F⟩ := T.f_l_asked
  refine F.r sc_l_asked (fun _ _ _ _ _ _ us hl => match us, hl with | [_, _], _ => rfl) (fun vs H Q E h => ?_) (fun cdv A outer s H vs Q E hr h => ?_)
  · obtain ⟨_, _, _, _, _, _, rfl, _⟩ := h
    rfl
  · obtain ⟨d, sl, f, p, cs, many, rfl, D, c63, m0, m6, q⟩ := h
    refine ⟨_, (pss_cons (ps_set (i := 2) sc_l_asked.nd rfl (Or.inl rfl) (pe_callB cr_sorted rfl T.u_sorted (by decide +kernel) (pa_cons (pe_lc (own := [("_law_k", 3)]) (g := gName 3) (tt := tYes)
        (te := tCallR (sp_l_off K) (tCons (tVar 0) (tCons (tOp (rIxL K) (tLst (tCons (tC (.int 20)) (tCons (tC (.int 201)) tNil))) (tCallR (sp_l_off K) (tCons (tVar 0) (tCons (tC (.int 2)) tNil)))) tNil))) rfl sc_l_asked.nd
        (pi_range1 rfl T.u_range (pa_cons (pe_op op_mul (pe_callR F_l_off (hr.mono (by decide)) rfl T.g_l_off T.k_l_off (pa_cons (pv 0) (pa_cons pe_int pa_nil))) (pe_callTy call_int1 rfl T.u_int (by decide +kernel) (pa_cons (pe_cmpR op_gt (pv 1) pe_int (nomark _)) pa_nil))) pa_nil))
        (blkOk_by (N := ["_law_d", "_law_many", "_law_beats", "_law_k", "_law_beat"]) (sc := defScope s_l_asked) (by decide +kernel)) (fun _ _ _ _ _ => pg_name (i := 3) sc_l_asked.nd rfl (Or.inl rfl)) (fun _ _ _ _ _ => pts_nil)
        (fun _ _ _ _ _ => pe_callR F_l_off (hr.mono (by decide)) rfl T.g_l_off T.k_l_off (pa_cons (pv 0) (pa_cons (pe_ix ix_list (pe_lst (pa_cons pe_int (pa_cons pe_int pa_nil))) (pe_callR F_l_off (hr.mono (by decide)) rfl T.g_l_off T.k_l_off (pa_cons (pv 0) (pa_cons pe_int pa_nil))) (fun _ _ => rfl)) pa_nil)))) pa_nil)))
      (pss_one (ps_ret (pe_lc (own := [("_law_beat", 4)]) (g := gName 4) (tt := tYes) (te := tTup (tCons (tVar 4) (tCons (tCallR (sp_l_off K) (tCons (tVar 0) (tCons (tVar 1) tNil))) tNil))) rfl sc_l_asked.nd (pi_list (pv 2))
        (blkOk_by (N := ["_law_d", "_law_many", "_law_beats", "_law_k", "_law_beat"]) (sc := defScope s_l_asked) (by decide +kernel)) (fun _ _ _ _ _ => pg_name (i := 4) sc_l_asked.nd rfl (Or.inl rfl)) (fun _ _ _ _ _ => pts_nil)
        (fun _ _ _ _ _ => pe_tup (pa_cons (pv 4) (pa_cons (pe_callR F_l_off (hr.mono (by decide)) rfl T.g_l_off T.k_l_off (pa_cons (pv 0) (pa_cons (pv 1) pa_nil))) pa_nil))))))), ?_⟩
    refine ⟨_, rfl, d, sl, f, p, cs, 9, rfl, D, c63, by decide, by decide, fun H1 f1 p1 cs1 n D1 c1 k1 n0 n1 => ?_⟩
    refine ⟨_, rfl, _, _, rfl, rfl, .inr ⟨_, rfl, ?_⟩⟩
    refine ⟨_, _, rfl, rfl, .inl ⟨by omega, by omega⟩, ?_⟩
    dsimp only
    obtain ⟨N, hN, N0, N8, Nz⟩ : ∃ N : Int, n * (if decide (0 < many) = true then 1 else 0) = N ∧ 0 ≤ N ∧ N ≤ 8 ∧ (many = 0 → N = 0) := by
      by_cases g : 0 < many
      · exact ⟨n, by rw [decide_eq_true g, if_pos rfl, Int.mul_one], n0, by omega, fun z => by omega⟩
      · exact ⟨0, by rw [decide_eq_false g, if_neg (by decide), Int.mul_zero], by decide, by decide, fun _ => rfl⟩
    rw [hN]
    refine ⟨N, rfl, by omega, by omega, fun R hR => ?_⟩
    have nR := D1.ned hR
    have hR0 : H R = none := k1.free hR nR
    have Rd : R ≠ d := fun z => nR (by simp [z])
    have Rs : R ≠ sl := fun z => nR (by simp [z])
    have sR : Same H1 (upd H1 R (.lst [])) := Same.new (Same.refl _) hR
    refine lc_it walk_range (fun i H4 => ∃ (f4 p4 : Int) (cs4 ws : List Int), DiceAt H4 d sl f4 p4 cs4 ∧ cs4.length = cs.length ∧ Kept [d, sl] H H4 ∧ H4 R = some (.lst (ws.map V.int)) ∧ ws.length = i ∧ ∀ x ∈ ws, rg 0 200 x)
      ⟨f1, p1, cs1, [], D1.same sR, by omega, k1.new hR0, upd_same, rfl, by simp⟩ (fun i H4 _ _ => trivial) ?_ ?_
    · rintro i x H8 H9 hi ⟨f4, p4, cs4, ws, D8, c8, k8, hR4, hl, hx⟩ ⟨rfl, rfl⟩
      refine ⟨rfl, yes ?_⟩
      refine pick2 (i := 0) rfl D8 (by omega) (by decide) (by decide) (by decide) (by decide) (fun H10 f10 p10 cs10 v D10 c10 k10 v0 v1 => ?_)
      have hR6 := k10 _ _ hR4 nR
      refine ⟨_, hR6, by rw [List.length_map, hl]; exact Nat.lt_of_lt_of_le hi (Nat.le_trans (show N.toNat ≤ 100 by omega) (by decide)), f10, p10, cs10, ws ++ [v], ?_, by omega, (k8.trans k10).new hR0, ?_, by simp [hl], ?_⟩
      · exact ⟨by rw [upd_ne (Ne.symm Rd)]; exact D10.ob, by rw [upd_ne (Ne.symm Rs)]; exact D10.ls, D10.f0, D10.f1, D10.p0, D10.ne⟩
      · rw [upd_same, List.map_append]
        rfl
      · intro y hy
        rcases List.mem_append.mp hy with hy | hy
        · exact hx y hy
        · have e : y = v := by simpa using hy
          rw [e]
          exact ⟨v0, by rcases v1 with z | z <;> omega⟩
    · rintro H8 ⟨f8, p8, cs8, ws, D8, c8, k8, hR8, hl, hx⟩
      refine ⟨R, ws, rfl, SqL.of hR8, by omega, fun ns' b hperm hsort hb => ?_⟩
      have hnl : ns'.length = N.toNat := by rw [hperm.length_eq, hl]
      have hnx : ∀ x ∈ ns', rg 0 200 x := fun x h => hx x (hperm.mem_iff.mp h)
      have s9 : Same H8 (upd H8 b (.lst (ns'.map V.int))) := Same.new (Same.refl _) hb
      have e9 : upd H8 b (.lst (ns'.map V.int)) b = some (.lst (ns'.map V.int)) := upd_same
      have nb := D8.ned hb
      have D9 := D8.same s9
      generalize upd H8 b (.lst (ns'.map V.int)) = H9 at s9 e9 D9
      have k9 : Kept [d, sl] H H9 := k8.trans (Kept.same s9)
      refine ⟨_, rfl, b, rfl, ⟨_, SqL.of e9⟩, fun R2 hR2 => lc_list (K := K) (a := b) (xs := ns'.map V.int) (fun i H4 => ∃ (f4 p4 : Int) (cs4 : List Int) (qs : List Addr) (as : List (Int × Int)), DiceAt H4 d sl f4 p4 cs4 ∧ cs4.length = cs.length ∧ Kept [d, sl] H H4 ∧ H4 b = some (.lst (ns'.map V.int)) ∧ TupsAt H4 R2 qs (as.map av) ∧ as.map (·.1) = ns'.take i ∧ ∀ a ∈ as, rg 0 200 a.1 ∧ 0 ≤ a.2 ∧ a.2 < many)
        ⟨f8, p8, cs8, [], [], D9.same (Same.new (Same.refl _) hR2), by omega, k9.new (k9.free hR2 (D9.ned hR2)), by rw [upd_ne (ne_of_none e9 hR2)]; exact e9, ⟨upd_same, rfl, fun j p vs e => by simp at e⟩, by simp, by simp⟩ (fun i H4 _ ⟨_, _, _, _, _, _, _, _, hb4, _⟩ => SqL.of hb4) ?_ ?_⟩
      · rintro i x H4 hx' ⟨f4, p4, cs4, qs, as, D4, c4, k4, hb4, tp, ea, ha⟩
        have nR2 := D9.ned hR2
        have R2d : R2 ≠ d := fun z => nR2 (by simp [z])
        have R2s : R2 ≠ sl := fun z => nR2 (by simp [z])
        have R2b : R2 ≠ b := ne_of_none' e9 hR2
        have hR20 : H R2 = none := k9.free hR2 nR2
        rw [List.getElem?_map] at hx'
        cases hy : ns'[i]? with
        | none => rw [hy] at hx'; cases hx'
        | some y =>
          rw [hy] at hx'
          cases hx'
          have hmy := List.mem_of_getElem? hy
          have hNpos : 0 < ns'.length := by
            have := (List.getElem?_eq_some_iff.mp hy).1
            omega
          have mpos : 0 < many := by
            by_cases z : many = 0
            · have := Nz z
              omega
            · omega
          refine ⟨rfl, yes ?_⟩
          refine ⟨_, rfl, _, rfl, _, rfl, d, sl, f4, p4, cs4, many, rfl, D4, by omega, mpos, by omega, fun H6 f6 p6 cs6 v D6 c6 k6 v0 v1 => ?_⟩
          refine ⟨by show 2 ≤ sizeLine; decide, fun t ht => ?_⟩
          have tk : Tk H4 H6 := Tk.of k6 (fun b hb => by
            have e : b = d ∨ b = sl := by simpa using hb
            rcases e with rfl | rfl
            · exact ⟨_, D4.ob, rfl⟩
            · exact ⟨_, D4.ls, rfl⟩)
          have hR6 := k6 _ _ tp.lst nR2
          have tp6 : TupsAt H6 R2 qs (as.map av) := ⟨hR6, tp.len, fun j y vs e1 e2 => tk _ _ (tp.at_ j y vs e1 e2)⟩
          have st : Same H6 (upd H6 t (.tup [.int y, .int v])) := Same.new (Same.refl _) ht
          have kk6 := k4.trans k6
          have nt := D6.ned ht
          have ht0 : H t = none := kk6.free ht nt
          have hb6 := k6 _ _ hb4 nb
          refine ⟨_, st _ _ hR6, ?_, f6, p6, cs6, qs ++ [t], as ++ [(y, v)], ?_, by omega, (kk6.new ht0).new hR20, ?_, ?_, ?_, ?_⟩
          · rw [List.length_map, tp.len, List.length_map]
            have := congrArg List.length ea
            rw [List.length_map, List.length_take] at this
            exact Nat.lt_of_le_of_lt (show as.length ≤ 100 by omega) (by decide)
          · have D7 := D6.same st
            exact ⟨by rw [upd_ne (Ne.symm R2d)]; exact D7.ob, by rw [upd_ne (Ne.symm R2s)]; exact D7.ls, D6.f0, D6.f1, D6.p0, D6.ne⟩
          · rw [upd_ne (Ne.symm R2b)]
            exact st _ _ hb6
          · have := tp6.snoc (vs := av (y, v)) ht
            rw [List.map_append (l₁ := qs)] at this
            rw [List.map_append (l₁ := as)]
            exact this
          · rw [List.map_append, ea, List.take_add_one, hy]
            rfl
          · intro z hz
            rcases List.mem_append.mp hz with hz | hz
            · exact ha z hz
            · have e : z = (y, v) := by simpa using hz
              rw [e]
              exact ⟨hnx y hmy, v0, v1⟩
      · rintro H4 ⟨f4, p4, cs4, qs, as, D4, c4, k4, hb4, tp, ea, ha⟩
        rw [List.length_map, List.take_length] at ea
        have el := congrArg List.length ea
        rw [List.length_map] at el
        refine q _ f4 p4 cs4 R2 qs as D4 c4 k4 (k9.free hR2 (D9.ned hR2)) tp ⟨by omega, fun z hz => ?_, fun i x y h1 h2 => ?_⟩
        · have := ha z hz
          exact ⟨this.1, this.2.1, by omega⟩
        · refine sort_next hsort i x.1 y.1 ?_ ?_
          · rw [← ea, List.getElem?_map, h1]
            rfl
          · rw [← ea, List.getElem?_map, h2]
            rfl
end
end SB

set_option Elab.async false
set_option linter.all false
set_option maxRecDepth 100000
namespace L2
open PySem PySem.Spec PyProof.Rows
section
variable {prog : Program} {w : World} {A : Around} {E : Value → Shared → Prop}
theorem call_upd_list {s : Shared} {d l : Addr} {ol : Obj} {items : Array Value} {n : Nat} {acc prs : List (Key × Value)} {Q : Value → Shared → Prop} (hh : A.handled = none) (hm : s.heap.DictOf (mixKind prog w) d acc) (hl : s.heap.get? l = some ol) (hc : ol.cls = .type "list") (hd : ol.dict = none)
    (hdat : ol.data = .seq items n) (hsz : items.size = prs.length) (hln : acc.length + prs.length ≤ sizeLine) (hdl : d ≠ l)
    (ht : ∀ (j : Nat) (q : Key × Value), prs[j]? = some q → ∃ (b : Addr) (u : Value), items[j]? = some (.ref b) ∧ b ≠ d ∧ IsTup s.heap b #[u, q.2] ∧ keyIs q.1 u = true)
    (h : ∀ h' tk, h'.DictOf (mixKind prog w) d (merged acc prs) → (∀ b o, b ≠ d → s.heap.get? b = some o → h'.get? b = some o) → Q .none { s with heap := h', toks := tk }) :
    wpAny (model prog w) A (call (.builtin "dict.update") [.ref d, .ref l]) Q E s := by
  refine call_meetsIn F.slot_dict_update hm.typeIs F.entry_dict_update (F.args_dict_update_2 _ _)
    (S := fun A' R s' => A' = A ∧ s' = s ∧ ∀ h' tk, h'.DictOf (mixKind prog w) d (merged acc prs) → (∀ b o, b ≠ d → s.heap.get? b = some o → h'.get? b = some o) → R (.ok (.ret .none)) { s with heap := h', toks := tk })
    (fun A' R s' hS => ?_) ⟨rfl, rfl, h⟩
  obtain ⟨rfl, rfl, hq⟩ := hS
  refine meets_dict_update_arg hm.typeIs ?_
  unfold Builtin.Dict.updateFrom
  refine wpAny_bind (wpAny_typeOf (T := "list") ⟨ol, hl, hc⟩ ?_)
  rw [if_pos (by first | decide | rfl | simp)]
  refine wpAny_bind (miss_list hl hc hdat hd hh fun h1 tk1 hk1 => ?_)
  rw [if_pos (show (none : Option Value).isNone = true from rfl)]
  refine wpAny_bind (wpAny_rule ?_)
  have hl1 : h1.IsList l items := ⟨ol, hk1 _ _ hl, hc, n, hdat⟩
  have hlt : l < h1.objs.size := Heap.lt_size (hk1 _ _ hl)
  have hdt : d < h1.objs.size := by
    obtain ⟨q, _, _, hq', _⟩ := hm
    exact Heap.lt_size (hk1 _ _ hq')
  refine wpAny_bind (wpAny_pyIter_list hl1 ?_)
  have k2 : ∀ b o, h1.get? b = some o → (h1.push { cls := .type "list_iterator", data := .fields #[.ref l, .int 0 0] }).get? b = some o := fun b o e => Heap.get?_push_of_some _ e
  have key := upd_loop (prog := prog) (w := w) (A := A') (R := R) (S := d) (I := h1.objs.size) (l := l) (items := items) (res := Value.none) hh
    (Nat.ne_of_lt hlt) (Nat.ne_of_lt hdt) hdl prs 0 acc 0 0
    { s' with heap := h1.push { cls := .type "list_iterator", data := .fields #[.ref l, .int 0 0] }, toks := tk1 } (by rw [hsz, Nat.zero_add]) hln
    (fun j q e => by
      obtain ⟨b, u, e1, e0, e2, e3⟩ := ht j q e
      have e2' : IsTup h1 b #[u, q.2] := e2.keeps fun c o z => hk1 _ _ z
      exact ⟨b, u, by rw [Nat.zero_add]; exact e1, e0, Nat.ne_of_lt e2'.lt, e2'.keeps fun c o z => k2 _ _ z, e3⟩)
    ⟨_, Heap.get?_push_size _ rfl, rfl, rfl⟩ (hl1.at fun o e => k2 _ _ e) ((hm.at fun o e => hk1 _ _ e).at fun o e => k2 _ _ e)
    (fun h' tk hd' k => hq h' tk hd' fun b o hb e => k b o hb (Nat.ne_of_lt (Heap.lt_size (hk1 _ _ e))) (k2 _ _ (hk1 _ _ e)))
  first
    | exact wpAny_pure ⟨plainId_quiet ud_plain _, key⟩
    | exact wpAny_bind (wpAny_pure (wpAny_pure ⟨plainId_quiet ud_plain _, key⟩))
end
section
variable {X : Cx}
def rUpdP (K : PySem.W.Frag) : V → List V → Hp → VK → Prop := fun x vs H Q => ∃ (a l : Addr) (ps : List Addr) (kvs kvs' : List (Key × V)), x = .ref a ∧ vs = [.ref l] ∧ H a = some (.dK kvs) ∧ H l = some (.lst (ps.map V.ref)) ∧ Paired (fun p kv => H p = some (.tup [kV kv.1, kv.2])) ps kvs' ∧ kvs.length + kvs'.length ≤ sizeLine ∧
  Q .non (upd H a (.dK (mergeK kvs kvs')))
theorem paired_sq {H : Hp} : ∀ {ps : List Addr} {kvs : List (Key × V)}, Paired (fun p kv => H p = some (.tup [kV kv.1, kv.2])) ps kvs → Paired (fun p kv => SqT X.K H p [kV kv.1, kv.2]) ps kvs
  | _, _, .nil => .nil
  | _, _, .cons h t => .cons (SqT.of h) (paired_sq t)
theorem paired_ne {H : Hp} {a : Addr} {kvs0 : List (Key × V)} (ha : H a = some (.dK kvs0)) : ∀ {ps : List Addr} {kvs : List (Key × V)}, Paired (fun p kv => H p = some (.tup [kV kv.1, kv.2])) ps kvs → ∀ (j : Nat) (b : Addr), ps[j]? = some b → b ≠ a
  | _, _, .nil, j, b, e => by simp at e
  | _, _, .cons h t, 0, b, e => by
    cases e
    exact ne_of h ha (by intro z; cases z)
  | _, _, .cons h t, j + 1, b, e => paired_ne ha t j b (by simpa using e)
theorem mt_updP (hcalm : X.calm = true) : MtM X "dict.update" (rUpdP X.K) := by
  intro pins s σ H x vs v us Q I rx rv h
  obtain ⟨a, l, ps, kvs, kvs', rfl, rfl, hH, hq, hp, hz, q⟩ := h
  cases rx
  obtain ⟨u, rfl, ru⟩ := rv.one
  cases ru
  obtain ⟨its, rv', pl, hzl⟩ := I.list (SqL.of hq)
  have ei := refs_at rv'
  subst ei
  obtain ⟨prs, rel, hl, hpr⟩ := pairs_of I (paired_sq (X := X) hp)
  obtain ⟨o, n, ho, hc, hd, hdat⟩ := pl
  obtain ⟨z, hsm, vs0, r0, dd⟩ := dk_of I.hok hH
  have hal : a ≠ l := ne_of hH hq (by intro z; cases z)
  have el : kvs'.length = prs.length := rel.length
  refine call_upd_list (prs := prs) (I.ok.hd hcalm) dd ho hc hd hdat (by simp [hl]) (by rw [← r0.length, ← el]; exact hz) hal (fun j q' e => ?_) fun h' tk hd' k => ?_
  · obtain ⟨b, u, e1, e2, e3⟩ := hpr j q' e
    exact ⟨b, u, by simp [e1], paired_ne hH hp j b e1, e2, e3⟩
  · have hlen : (mergeK kvs kvs').length ≤ sizeLine := Nat.le_trans (length_mergeK kvs' kvs) (by omega)
    have he : ∃ q, h'.get? a = some q := let ⟨q, _, _, hq, _⟩ := hd'; ⟨q, hq⟩
    exact ⟨.non, _, I.write (t' := tk) (x := a) (e := a) (by rw [hH]; exact True.intro) (.inl rfl) k he (dk_new hlen hsm (KV.merge rel r0) hd'), rfl, q⟩
end
end L2

set_option Elab.async false
set_option linter.all false
set_option maxRecDepth 100000
set_option maxHeartbeats 4000000
namespace SB
open PySem L2
inductive Kd where
  | set | add | less | get | getx | put | putx | pair | lay | ask | done | mark | clear | rest | iff | go | fin
abbrev Kd.str : Kd → Str
  | .set => "set" | .add => "add" | .less => "less" | .get => "get" | .getx => "getx" | .put => "put" | .putx => "putx" | .pair => "pair" | .lay => "lay" | .ask => "ask" | .done => "done" | .mark => "mark"
  | .clear => "clear" | .rest => "rest" | .iff => "if" | .go => "go" | .fin => "end"
abbrev Kd.v (k : Kd) : V := .str k.str
abbrev L14 : List Kd := [.set, .add, .less, .get, .getx, .put, .putx, .pair, .pair, .lay, .ask, .ask, .done, .mark]
abbrev L8 : List Kd := [.clear, .rest, .get, .put, .set, .iff, .go, .iff]
def Lk (st : Bool) : List Kd := L14 ++ L8.take (if st = true then 5 else 8)
theorem Lk_len (st : Bool) : (Lk st).length = if st = true then 19 else 22 := by cases st <;> rfl
theorem Lk_st : ∀ k ∈ Lk true, k ≠ .go ∧ k ≠ .iff := fun k hk => by
  have h : k ∈ ([.set, .add, .less, .get, .getx, .put, .putx, .pair, .pair, .lay, .ask, .ask, .done, .mark, .clear, .rest, .get, .put, .set] : List Kd) := hk
  simp only [List.mem_cons, List.not_mem_nil, or_false] at h
  rcases h with h | h | h | h | h | h | h | h | h | h | h | h | h | h | h | h | h | h | h <;> rw [h] <;> exact ⟨Kd.noConfusion, Kd.noConfusion⟩
theorem ecut (st : Bool) : cutV (L8.map Kd.v) none (some (8 - 3 * (if st = true then 1 else 0))) = (L8.take (if st = true then 5 else 8)).map Kd.v := by
  have e : (8 - 3 * (if st = true then 1 else 0) : Int) = ((if st = true then 5 else 8 : Nat) : Int) := by cases st <;> rfl
  rw [e, cut_take, List.map_take]
section
variable {P : Program} {w : World} {K : PySem.W.Frag} {mg : Str → Option Value} {base : Heap}
def StD (H : Hp) (d sl : Addr) (n : Nat) (Hx : Hp) : Prop := ∃ f p cs, DiceAt Hx d sl f p cs ∧ cs.length = n ∧ Kept [d, sl] H Hx
theorem StD.new {H Hx : Hp} {d sl t : Addr} {n : Nat} {o : HO} (h : StD H d sl n Hx) (ht : Hx t = none) : StD H d sl n (upd Hx t o) := by
  obtain ⟨f, p, cs, D, c, k⟩ := h
  have s : Same Hx (upd Hx t o) := Same.new (Same.refl _) ht
  exact ⟨f, p, cs, D.same s, c, k.trans (Kept.same s)⟩
theorem StD.free {H Hx : Hp} {d sl t : Addr} {n : Nat} (h : StD H d sl n Hx) (ht : Hx t = none) : H t = none := by
  obtain ⟨f, p, cs, D, c, k⟩ := h
  exact k.free ht (D.ned ht)
theorem StD.off {H Hx : Hp} {d sl : Addr} {n : Nat} {σ : L2.St} {i : Nat} {ta : TE} {m : Int} {Q : VK} (h : StD H d sl n Hx) (n63 : n ≤ 63) (hσ : σ[i]? = some (some (.ref d))) (ha : ∀ Q2 : VK, Q2 (.int m) Hx → ta σ Hx Q2) (m0 : 0 < m) (m1 : m < 1073741824)
    (q : ∀ Hy v, StD H d sl n Hy → Kept [d, sl] Hx Hy → 0 ≤ v → v < m → Q (.int v) Hy) : tCallR (sp_l_off K) (tCons (tVar i) (tCons ta tNil)) σ Hx Q := by
  obtain ⟨f, p, cs, D, c, k⟩ := h
  refine ⟨_, hσ, ha _ ?_⟩
  exact ⟨d, sl, f, p, cs, m, rfl, D, by omega, m0, m1, fun H2 f2 p2 cs2 v D2 c2 k2 v0 v1 => q H2 v ⟨f2, p2, cs2, D2, by omega, k.trans k2⟩ k2 v0 v1⟩
theorem t_in {σ : L2.St} {H : Hp} {z : Str} {ys : List V} {ta : TA} {Q : Bool → Hp → Prop} (b : Bool) (hσ : σ[4]? = some (some (.str z))) (ha : ∀ Q2 : List V → Hp → Prop, ta σ H Q2 = Q2 ys H) (hl : ys.length ≤ sizeLine) (hf : ys.all flatV = true) (hb : inV (.str z) ys = b)
    (q : ∀ t, H t = none → Q b (upd H t (.tup ys))) : tTest (tOp (rIn K false) (tVar 4) (tTup ta)) σ H Q := by
  refine ⟨_, hσ, ?_⟩
  show ta σ H _
  rw [ha]
  refine ⟨hl, fun t ht => ⟨t, ys, rfl, .inr (SqT.of upd_same), rfl, hf, _, rfl, ?_⟩⟩
  show Q (inV (.str z) ys) _
  rw [hb]
  exact q t ht
theorem StD.tk {H Hx Hy : Hp} {d sl : Addr} {n : Nat} (h : StD H d sl n Hx) (k : Kept [d, sl] Hx Hy) : Tk Hx Hy := by
  obtain ⟨f, p, cs, D, c, _⟩ := h
  refine Tk.of k (fun b hb => ?_)
  have e : b = d ∨ b = sl := by simpa using hb
  rcases e with rfl | rfl
  · exact ⟨_, D.ob, rfl⟩
  · exact ⟨_, D.ls, rfl⟩
theorem StD.nin {H Hx : Hp} {d sl : Addr} {n : Nat} (h : StD H d sl n Hx) {y : Addr} (hy : Hx y = none) : y ∉ [d, sl] := by
  obtain ⟨f, p, cs, D, c, _⟩ := h
  exact D.ned hy
theorem StD.pick {H Hx : Hp} {d sl : Addr} {n : Nat} {σ : L2.St} {i : Nat} {x y : Int} {Q : VK} (h : StD H d sl n Hx) (n63 : n ≤ 63) (hσ : σ[i]? = some (some (.ref d))) (x0 : 0 < x) (x1 : x < 1073741824) (y0 : 0 < y) (y1 : y < 1073741824)
    (q : ∀ Hy v, StD H d sl n Hy → Kept [d, sl] Hx Hy → 0 ≤ v → (v < x ∨ v < y) → Q (.int v) Hy) :
    tCallR (sp_l_off K) (tCons (tVar i) (tCons (tOp (rIxL K) (tLst (tCons (tC (.int x)) (tCons (tC (.int y)) tNil))) (tCallR (sp_l_off K) (tCons (tVar i) (tCons (tC (.int 2)) tNil)))) tNil)) σ Hx Q := by
  obtain ⟨f, p, cs, D, c, k⟩ := h
  exact pick2 hσ D (by omega) x0 x1 y0 y1 (fun H2 f2 p2 cs2 v D2 c2 k2 v0 v1 => q H2 v ⟨f2, p2, cs2, D2, by omega, k.trans k2⟩ k2 v0 v1)
theorem Tk.put1 {Hx Hy : Hp} {p : Addr} {o : HO} (k : Kept [p] Hx Hy) (h : Hx p = some o) (nt : notTup o = true) : Tk Hx Hy := Tk.of k (fun b hb => by
  have e : b = p := by simpa using hb
  rw [e]
  exact ⟨_, h, nt⟩)
theorem StD.putP {H Hx Hy : Hp} {d sl p : Addr} {n : Nat} (h : StD H d sl n Hx) (k : Kept [p] Hx Hy) (np : p ∉ [d, sl]) (hp : H p = none) : StD H d sl n Hy := by
  obtain ⟨f, q, cs, D, c, k0⟩ := h
  have pd : p ≠ d := fun z => np (by simp [z])
  have ps : p ≠ sl := fun z => np (by simp [z])
  refine ⟨f, q, cs, ⟨k _ _ D.ob (by simpa using Ne.symm pd), k _ _ D.ls (by simpa using Ne.symm ps), D.f0, D.f1, D.p0, D.ne⟩, c, fun b o e hb => k _ _ (k0 b o e hb) ?_⟩
  simpa using ne_of_none e hp
def sp_l_row (K : PySem.W.Frag) : Sp := fun vs H Q _ => ∃ (d sl : Addr) (f p : Int) (cs : List Int) (many : Int) (st : Bool), vs = [.ref d, .int many, .bl st] ∧ DiceAt H d sl f p cs ∧ cs.length ≤ 63 ∧ 1 ≤ many ∧ many ≤ 40 ∧
  ∀ (H' : Hp) (f' p' : Int) (cs' : List Int) (t : Addr) (r : Row), DiceAt H' d sl f' p' cs' → cs'.length = cs.length → Kept [d, sl] H H' → H t = none → H' t = some (.tup r.vs) → r.ok many.toNat → (st = true → (∀ x, r ≠ .go x) ∧ ∀ x y, r ≠ .iff x y) → Q (.ref t) H'
theorem ok_l_row (T : T w K mg) : FnR P w K mg base CX0 2 (He.ga K "_law_row") (sp_l_row K) := by
  have F_l_off : FnR P w K mg base CX0 1 _ _ := ok_l_off T
  obtain ⟨fd, F⟩ := T.f_l_row
  refine F.r sc_l_row (fun _ _ _ _ _ _ us hl => match us, hl with | [_, _, _], _ => rfl) (fun vs H Q E h => ?_) (fun cdv A outer s H vs Q E hr h => ?_)
  · obtain ⟨_, _, _, _, _, _, _, rfl, _⟩ := h
    rfl
  · obtain ⟨d, sl, f, p, cs, many, st, rfl, D, c63, m1, m40, q⟩ := h
    have hu := hr.units
    have hu1 : (A.deeper (PyProof.Rows.envOfC "_law_row" (defScope s_l_row) s.heap.objs.size (He.ga K "_law_row") cdv)).units + 1 < cLine := by omega
    refine ⟨_, (pss_cons (ps_set (i := 3) sc_l_row.nd rfl (Or.inl rfl) (pe_lst (pa_cons pe_str (pa_cons pe_str (pa_cons pe_str (pa_cons pe_str (pa_cons pe_str (pa_cons pe_str (pa_cons pe_str (pa_cons pe_str (pa_cons pe_str (pa_cons pe_str (pa_cons pe_str (pa_cons pe_str (pa_cons pe_str (pa_cons pe_str pa_nil))))))))))))))))
      (pss_cons (ps_set (i := 3) sc_l_row.nd rfl (Or.inl rfl) (pe_op op_cat (pv 3) (pe_slice sl_list (pe_lst (pa_cons pe_str (pa_cons pe_str (pa_cons pe_str (pa_cons pe_str (pa_cons pe_str (pa_cons pe_str (pa_cons pe_str (pa_cons pe_str pa_nil))))))))) po_none (po_some (pe_op op_sub pe_int (pe_op op_mul pe_int (pe_callTy call_int1 rfl T.u_int (by decide +kernel) (pa_cons (pv 2) pa_nil))))))))
      (pss_cons (ps_set (i := 4) sc_l_row.nd rfl (Or.inl rfl) (pe_ifExp (pt_cmpR op_gt (pe_callR F_l_off (hr.mono (by decide)) rfl T.g_l_off T.k_l_off (pa_cons (pv 0) (pa_cons pe_int pa_nil))) pe_int (nomark _)) (pe_ix ix_list (pv 3) (pe_callR F_l_off (hr.mono (by decide)) rfl T.g_l_off T.k_l_off (pa_cons (pv 0) (pa_cons (pe_callB call_len_seq rfl T.u_len PySem.boot_len (pa_cons (pv 3) pa_nil)) pa_nil))) (fun _ _ => rfl)) pe_str))
      (pss_cons (ps_par rfl sc_l_row.nd (i := 5) (j := 6) rfl rfl (by decide) rfl rfl (pa_cons (pe_callR F_l_off (hr.mono (by decide)) rfl T.g_l_off T.k_l_off (pa_cons (pv 0) (pa_cons pe_int pa_nil))) (pa_cons (pe_callR F_l_off (hr.mono (by decide)) rfl T.g_l_off T.k_l_off (pa_cons (pv 0) (pa_cons pe_int pa_nil))) pa_nil)) rfl)
      (pss_cons (ps_set (i := 7) sc_l_row.nd rfl (Or.inl rfl) (pe_callR F_l_off (hr.mono (by decide)) rfl T.g_l_off T.k_l_off (pa_cons (pv 0) (pa_cons (pe_ix ix_list (pe_lst (pa_cons pe_int (pa_cons pe_int pa_nil))) (pe_callR F_l_off (hr.mono (by decide)) rfl T.g_l_off T.k_l_off (pa_cons (pv 0) (pa_cons pe_int pa_nil))) (fun _ _ => rfl)) pa_nil))))
      (pss_cons (ps_if (pt_cmpR op_in_seq (pv 4) (pe_tup (pa_cons pe_str (pa_cons pe_str (pa_cons pe_str (pa_cons pe_str pa_nil))))) rfl) (pss_one (ps_ret (pe_tup (pa_cons (pv 4) (pa_cons (pv 5) (pa_cons (pv 6) pa_nil)))))) pss_nil)
      (pss_cons (ps_if (pt_cmpR op_in_seq (pv 4) (pe_tup (pa_cons pe_str (pa_cons pe_str pa_nil))) rfl) (pss_one (ps_ret (pe_ifExp (pt_cmpR op_eq (pv 4) pe_str (nomark _)) (pe_tup (pa_cons (pv 4) (pa_cons (pv 5) (pa_cons (pv 7) pa_nil)))) (pe_tup (pa_cons (pv 4) (pa_cons (pv 7) (pa_cons (pv 5) pa_nil))))))) pss_nil)
      (pss_cons (ps_if (pt_cmpR op_in_seq (pv 4) (pe_tup (pa_cons pe_str (pa_cons pe_str pa_nil))) rfl) (pss_one (ps_ret (pe_ifExp (pt_cmpR op_eq (pv 4) pe_str (nomark _)) (pe_tup (pa_cons (pv 4) (pa_cons (pe_op op_mod (pv 5) pe_int) (pa_cons (pv 7) pa_nil)))) (pe_tup (pa_cons (pv 4) (pa_cons (pv 7) (pa_cons (pe_op op_mod (pv 5) pe_int) pa_nil))))))) pss_nil)
      (pss_cons (ps_if (pt_cmpR op_in_seq (pv 4) (pe_tup (pa_cons pe_str (pa_cons pe_str pa_nil))) rfl) (pss_one (ps_ret (pe_ifExp (pt_cmpR op_eq (pv 4) pe_str (nomark _)) (pe_tup (pa_cons (pv 4) (pa_cons (pe_callR F_l_off (hr.mono (by decide)) rfl T.g_l_off T.k_l_off (pa_cons (pv 0) (pa_cons (pv 1) pa_nil))) pa_nil))) (pe_tup (pa_cons (pv 4) (pa_cons (pv 5) (pa_cons (pe_callR F_l_off (hr.mono (by decide)) rfl T.g_l_off T.k_l_off (pa_cons (pv 0) (pa_cons (pv 1) pa_nil))) pa_nil))))))) pss_nil)
      (pss_cons (ps_set (i := 8) sc_l_row.nd rfl (Or.inl rfl) (pe_disp (pps_cons pe_str (pe_tup (pa_cons (pv 5) (pa_cons (pe_callR F_l_off (hr.mono (by decide)) rfl T.g_l_off T.k_l_off (pa_cons (pv 0) (pa_cons pe_int pa_nil))) pa_nil))) (pps_cons pe_str (pe_tup (pa_cons (pe_callR F_l_off (hr.mono (by decide)) rfl T.g_l_off T.k_l_off (pa_cons (pv 0) (pa_cons pe_int pa_nil))) pa_nil)) (pps_cons pe_str (pe_tup (pa_cons (pv 5) (pa_cons (pe_callR F_l_off (hr.mono (by decide)) rfl T.g_l_off T.k_l_off (pa_cons (pv 0) (pa_cons pe_int pa_nil))) pa_nil))) (pps_cons pe_str (pe_tup pa_nil) pps_nil)))) rfl rfl (by simp) (by decide)))
      (pss_cons (ps_expr (pe_bm PySem.F.plainAttrs_dict PySem.F.slot_dict_update PySem.F.type_dict_update (mt_updP rfl) (pv 8) (pa_cons (pe_lst (pa_cons (pe_tup (pa_cons pe_str (pa_cons (pe_tup (pa_cons (pe_op op_mod (pv 5) pe_int) pa_nil)) pa_nil))) (pa_cons (pe_tup (pa_cons pe_str (pa_cons (pe_tup (pa_cons (pe_op op_mod (pv 5) pe_int) pa_nil)) pa_nil))) (pa_cons (pe_tup (pa_cons pe_str (pa_cons (pe_tup (pa_cons (pe_op op_add pe_int (pe_callR F_l_off (hr.mono (by decide)) rfl T.g_l_off T.k_l_off (pa_cons (pv 0) (pa_cons pe_int pa_nil)))) pa_nil)) pa_nil))) pa_nil)))) pa_nil)))
      (pss_one (ps_ret (pe_op op_catA (pe_tup (pa_cons (pv 4) pa_nil)) (pe_dget hu1 (pv 8) (pv 4) (fun _ _ => rfl)))))))))))))))), ?_⟩
    have S0 : StD H d sl cs.length H := ⟨f, p, cs, D, rfl, Kept.refl _ _⟩
    refine ⟨by show 14 ≤ sizeLine; decide, fun w1 hw1 => ?_⟩
    generalize hG1 : upd H w1 _ = G1
    have S1 : StD H d sl cs.length G1 := by rw [← hG1]; exact S0.new hw1
    have e1 : G1 w1 = some (.lst (L14.map Kd.v)) := by rw [← hG1]; exact upd_same
    clear hG1
    refine ⟨_, rfl, by show 8 ≤ sizeLine; decide, fun w2 hw2 => ?_⟩
    generalize hG2 : upd G1 w2 _ = G2
    have S2 : StD H d sl cs.length G2 := by rw [← hG2]; exact S1.new hw2
    have e2 : G2 w2 = some (.lst (L8.map Kd.v)) := by rw [← hG2]; exact upd_same
    have e12 : G2 w1 = some (.lst (L14.map Kd.v)) := by rw [← hG2, upd_ne (ne_of_none e1 hw2)]; exact e1
    clear hG2
    refine ⟨_, rfl, .inr ⟨_, rfl, ?_⟩⟩
    refine ⟨3, _, rfl, rfl, .inl ⟨by decide, by decide⟩, ?_⟩
    refine ⟨8, _, rfl, rfl, ?_⟩
    refine ⟨_, rfl, ?_⟩
    refine ⟨w2, L8.map Kd.v, rfl, SqL.of e2, fun w3 hw3 => ?_⟩
    rw [ecut]
    generalize hG3 : upd G2 w3 _ = G3
    have S3 : StD H d sl cs.length G3 := by rw [← hG3]; exact S2.new hw3
    have e3 : G3 w3 = some (.lst ((L8.take (if st = true then 5 else 8)).map Kd.v)) := by rw [← hG3]; exact upd_same
    have e13 : G3 w1 = some (.lst (L14.map Kd.v)) := by rw [← hG3, upd_ne (ne_of_none e12 hw3)]; exact e12
    clear hG3
    refine ⟨w1, w3, _, _, rfl, rfl, e13, e3, ?_, fun w4 hw4 => ?_⟩
    · rw [List.length_map, List.length_map, List.length_take]
      exact Nat.le_trans (Nat.add_le_add (Nat.le_refl 14) (Nat.min_le_right _ _)) (by decide)
    rw [← List.map_append]
    generalize hG4 : upd G3 w4 _ = G4
    have S4 : StD H d sl cs.length G4 := by rw [← hG4]; exact S3.new hw4
    have e4 : G4 w4 = some (.lst ((Lk st).map Kd.v)) := by rw [← hG4]; exact upd_same
    have nw4 : w4 ∉ [d, sl] := S3.nin hw4
    clear hG4 e3 e13 e12 e2 e1
    have via : ∀ {te : TE} {σ : L2.St} {Q : VK}, (∀ Q' : VK, (∀ kd Hn, (st = true → kd ≠ Kd.go ∧ kd ≠ Kd.iff) → StD H d sl cs.length Hn → Q' (.str kd.str) Hn) → te σ G4 Q') → (∀ kd Hn, (st = true → kd ≠ Kd.go ∧ kd ≠ Kd.iff) → StD H d sl cs.length Hn → Q (.str kd.str) Hn) → te σ G4 Q := fun h q => h _ q
    refine via (te := tIf (tTest (tOp (rI0 fun i j => V.bl (decide (j < i))) (tCallR (sp_l_off K) (tCons (tVar 0) (tCons (tC (V.int 25)) tNil))) (tC (V.int 0)))) (tOp (rIxL K) (tVar 3) (tCallR (sp_l_off K) (tCons (tVar 0) (tCons (tCB (fun xs H Q => ∃ p ys, xs = [.ref p] ∧ (SqL K H p ys ∨ SqT K H p ys) ∧ Q (.int ys.length) H) (tCons (tVar 3) tNil)) tNil)))) (tC (.str "end"))) (fun Q' k => ?_) (fun kd G5 gk S5 => ?_)
    · refine S4.off c63 rfl (fun _ h => h) (by decide) (by decide) (fun Hy v Sy ky v0 v1 => ?_)
      refine ⟨_, _, rfl, rfl, ?_⟩
      refine ⟨_, rfl, ?_⟩
      have ey : Hy w4 = some (.lst ((Lk st).map Kd.v)) := ky _ _ e4 nw4
      refine ite2 (fun c1 => ?_) (fun c1 => ?_)
      · refine ⟨_, rfl, ?_⟩
        refine Sy.off (m := ((Lk st).length : Int)) c63 rfl (fun Q2 h => ⟨_, rfl, _, _, rfl, .inl (SqL.of ey), by rw [List.length_map]; exact h⟩) (by rw [Lk_len]; cases st <;> decide) (by rw [Lk_len]; cases st <;> decide) (fun Hz u Sz kz u0 u1 => ?_)
        have ez : Hz w4 = some (.lst ((Lk st).map Kd.v)) := kz _ _ ey nw4
        obtain ⟨kd, hkd⟩ : ∃ kd, (Lk st)[u.toNat]? = some kd := ⟨_, List.getElem?_eq_getElem (by omega)⟩
        refine ⟨_, _, _, _, rfl, rfl, SqL.of ez, ?_, k kd Hz (fun hs => ?_) Sz⟩
        · unfold atI ixN
          rw [if_pos u0, List.length_map, if_pos u1]
          show ((Lk st).map Kd.v)[u.toNat]? = _
          rw [List.getElem?_map, hkd]
          rfl
        · subst hs
          exact Lk_st kd (List.mem_of_getElem? hkd)
      · exact k .fin Hy (fun _ => ⟨Kd.noConfusion, Kd.noConfusion⟩) Sy
    · refine S5.off c63 rfl (fun _ h => h) (by decide) (by decide) (fun G6 r S6 k6 r0 r1 => ?_)
      refine S6.off c63 rfl (fun _ h => h) (by decide) (by decide) (fun G7 x S7 k7 x0 x1 => ?_)
      refine ⟨_, _, rfl, ?_⟩
      refine S7.pick c63 rfl (by decide) (by decide) (by decide) (by decide) (fun G8 ad S8 k8 ad0 ad1 => ?_)
      have ad31 : rg 0 31 ad := ⟨ad0, by omega⟩
      have r3 : rg 0 3 r := ⟨r0, by omega⟩
      have x3 : rg 0 3 x := ⟨x0, by omega⟩
      have rm : rg 0 2 (r % 3) := ⟨by omega, by omega⟩
      clear S0 S1 S2 S3 S4 S5 S6 S7 via
      have fin : ∀ (Hx : Hp) (rw_ : Row) (t : Addr), StD H d sl cs.length Hx → H t = none → Hx t = some (.tup rw_.vs) → rw_.ok many.toNat → (st = true → (∀ x, rw_ ≠ .go x) ∧ ∀ x y, rw_ ≠ .iff x y) → Q (.ref t) Hx := fun Hx rw_ t Sx nt ht ok hs => by
        obtain ⟨f, p, cs', Dx, cx, kx⟩ := Sx
        exact q Hx f p cs' t rw_ Dx cx kx nt ht ok hs
      have tup3 : ∀ (Hx : Hp) (rw_ : Row), StD H d sl cs.length Hx → rw_.ok many.toNat → (st = true → (∀ x, rw_ ≠ .go x) ∧ ∀ x y, rw_ ≠ .iff x y) → ∀ t, Hx t = none → Q (.ref t) (upd Hx t (.tup rw_.vs)) := fun Hx rw_ Sx ok hs t ht => fin _ rw_ t (Sx.new ht) (Sx.free ht) upd_same ok hs
      cases kd
      case add =>
        refine t_in true rfl (fun _ => rfl) (by decide) (by kernel_rfl) (by kernel_rfl) (fun u0 hu0 => iteT ?_)
        refine ⟨_, rfl, _, rfl, _, rfl, by show 3 ≤ sizeLine; decide, fun t ht => ?_⟩
        exact tup3 _ (.add r x) (S8.new hu0) ⟨r3, x3⟩ (fun _ => ⟨fun _ => Row.noConfusion, fun _ _ => Row.noConfusion⟩) t ht
      case less =>
        refine t_in true rfl (fun _ => rfl) (by decide) (by kernel_rfl) (by kernel_rfl) (fun u0 hu0 => iteT ?_)
        refine ⟨_, rfl, _, rfl, _, rfl, by show 3 ≤ sizeLine; decide, fun t ht => ?_⟩
        exact tup3 _ (.less r x) (S8.new hu0) ⟨r3, x3⟩ (fun _ => ⟨fun _ => Row.noConfusion, fun _ _ => Row.noConfusion⟩) t ht
      case getx =>
        refine t_in true rfl (fun _ => rfl) (by decide) (by kernel_rfl) (by kernel_rfl) (fun u0 hu0 => iteT ?_)
        refine ⟨_, rfl, _, rfl, _, rfl, by show 3 ≤ sizeLine; decide, fun t ht => ?_⟩
        exact tup3 _ (.getx r x) (S8.new hu0) ⟨r3, x3⟩ (fun _ => ⟨fun _ => Row.noConfusion, fun _ _ => Row.noConfusion⟩) t ht
      case putx =>
        refine t_in true rfl (fun _ => rfl) (by decide) (by kernel_rfl) (by kernel_rfl) (fun u0 hu0 => iteT ?_)
        refine ⟨_, rfl, _, rfl, _, rfl, by show 3 ≤ sizeLine; decide, fun t ht => ?_⟩
        exact tup3 _ (.putx r x) (S8.new hu0) ⟨r3, x3⟩ (fun _ => ⟨fun _ => Row.noConfusion, fun _ _ => Row.noConfusion⟩) t ht
      case get =>
        refine t_in false rfl (fun _ => rfl) (by decide) (by kernel_rfl) (by kernel_rfl) (fun u0 hu0 => iteF ?_)
        refine t_in true rfl (fun _ => rfl) (by decide) (by kernel_rfl) (by kernel_rfl) (fun u1 hu1 => iteT ?_)
        refine ⟨_, rfl, rfl, _, rfl, ?_⟩
        rw [dec_str]
        rw [decide_eq_true (by rfl)]
        refine iteT ?_
        refine ⟨_, rfl, _, rfl, _, rfl, by show 3 ≤ sizeLine; decide, fun t ht => ?_⟩
        exact tup3 _ (.get r ad) ((S8.new hu0).new hu1) ⟨r3, ad31⟩ (fun _ => ⟨fun _ => Row.noConfusion, fun _ _ => Row.noConfusion⟩) t ht
      case put =>
        refine t_in false rfl (fun _ => rfl) (by decide) (by kernel_rfl) (by kernel_rfl) (fun u0 hu0 => iteF ?_)
        refine t_in true rfl (fun _ => rfl) (by decide) (by kernel_rfl) (by kernel_rfl) (fun u1 hu1 => iteT ?_)
        refine ⟨_, rfl, rfl, _, rfl, ?_⟩
        rw [dec_str]
        rw [decide_eq_false (by decide +kernel)]
        refine iteF ?_
        refine ⟨_, rfl, _, rfl, _, rfl, by show 3 ≤ sizeLine; decide, fun t ht => ?_⟩
        exact tup3 _ (.put ad r) ((S8.new hu0).new hu1) ⟨ad31, r3⟩ (fun _ => ⟨fun _ => Row.noConfusion, fun _ _ => Row.noConfusion⟩) t ht
      case pair =>
        refine t_in false rfl (fun _ => rfl) (by decide) (by kernel_rfl) (by kernel_rfl) (fun u0 hu0 => iteF ?_)
        refine t_in false rfl (fun _ => rfl) (by decide) (by kernel_rfl) (by kernel_rfl) (fun u1 hu1 => iteF ?_)
        refine t_in true rfl (fun _ => rfl) (by decide) (by kernel_rfl) (by kernel_rfl) (fun u2 hu2 => iteT ?_)
        refine ⟨_, rfl, rfl, _, rfl, ?_⟩
        rw [dec_str]
        rw [decide_eq_true (by rfl)]
        refine iteT ?_
        refine ⟨_, rfl, _, rfl, _, _, rfl, rfl, (by show (0 : Int) < 3; decide), _, rfl, by show 3 ≤ sizeLine; decide, fun t ht => ?_⟩
        exact tup3 _ (.pair (r % 3) ad) (((S8.new hu0).new hu1).new hu2) ⟨rm, ad31⟩ (fun _ => ⟨fun _ => Row.noConfusion, fun _ _ => Row.noConfusion⟩) t ht
      case lay =>
        refine t_in false rfl (fun _ => rfl) (by decide) (by kernel_rfl) (by kernel_rfl) (fun u0 hu0 => iteF ?_)
        refine t_in false rfl (fun _ => rfl) (by decide) (by kernel_rfl) (by kernel_rfl) (fun u1 hu1 => iteF ?_)
        refine t_in true rfl (fun _ => rfl) (by decide) (by kernel_rfl) (by kernel_rfl) (fun u2 hu2 => iteT ?_)
        refine ⟨_, rfl, rfl, _, rfl, ?_⟩
        rw [dec_str]
        rw [decide_eq_false (by decide +kernel)]
        refine iteF ?_
        refine ⟨_, rfl, _, rfl, _, rfl, _, _, rfl, rfl, (by show (0 : Int) < 3; decide), by show 3 ≤ sizeLine; decide, fun t ht => ?_⟩
        exact tup3 _ (.lay ad (r % 3)) (((S8.new hu0).new hu1).new hu2) ⟨ad31, rm⟩ (fun _ => ⟨fun _ => Row.noConfusion, fun _ _ => Row.noConfusion⟩) t ht
      case go =>
        refine t_in false rfl (fun _ => rfl) (by decide) (by kernel_rfl) (by kernel_rfl) (fun u0 hu0 => iteF ?_)
        refine t_in false rfl (fun _ => rfl) (by decide) (by kernel_rfl) (by kernel_rfl) (fun u1 hu1 => iteF ?_)
        refine t_in false rfl (fun _ => rfl) (by decide) (by kernel_rfl) (by kernel_rfl) (fun u2 hu2 => iteF ?_)
        refine t_in true rfl (fun _ => rfl) (by decide) (by kernel_rfl) (by kernel_rfl) (fun u3 hu3 => iteT ?_)
        refine ⟨_, rfl, rfl, _, rfl, ?_⟩
        rw [dec_str]
        rw [decide_eq_true (by rfl)]
        refine iteT ?_
        refine ⟨_, rfl, ?_⟩
        refine StD.off ((((S8.new hu0).new hu1).new hu2).new hu3) c63 rfl (fun _ h => ⟨_, rfl, h⟩) (by omega) (by omega) (fun G9 v S9 k9 v0 v1 => ?_)
        refine ⟨by show 2 ≤ sizeLine; decide, fun t ht => ?_⟩
        exact tup3 _ (.go v) S9 ⟨v0, by omega⟩ (fun hs => absurd rfl (gk hs).1) t ht
      case iff =>
        refine t_in false rfl (fun _ => rfl) (by decide) (by kernel_rfl) (by kernel_rfl) (fun u0 hu0 => iteF ?_)
        refine t_in false rfl (fun _ => rfl) (by decide) (by kernel_rfl) (by kernel_rfl) (fun u1 hu1 => iteF ?_)
        refine t_in false rfl (fun _ => rfl) (by decide) (by kernel_rfl) (by kernel_rfl) (fun u2 hu2 => iteF ?_)
        refine t_in true rfl (fun _ => rfl) (by decide) (by kernel_rfl) (by kernel_rfl) (fun u3 hu3 => iteT ?_)
        refine ⟨_, rfl, rfl, _, rfl, ?_⟩
        rw [dec_str]
        rw [decide_eq_false (by decide +kernel)]
        refine iteF ?_
        refine ⟨_, rfl, _, rfl, ?_⟩
        refine StD.off ((((S8.new hu0).new hu1).new hu2).new hu3) c63 rfl (fun _ h => ⟨_, rfl, h⟩) (by omega) (by omega) (fun G9 v S9 k9 v0 v1 => ?_)
        refine ⟨by show 3 ≤ sizeLine; decide, fun t ht => ?_⟩
        exact tup3 _ (.iff r v) S9 ⟨r3, v0, by omega⟩ (fun hs => absurd rfl (gk hs).2) t ht
      all_goals
        refine t_in false rfl (fun _ => rfl) (by decide) (by kernel_rfl) (by kernel_rfl) (fun u0 hu0 => iteF ?_)
        refine t_in false rfl (fun _ => rfl) (by decide) (by kernel_rfl) (by kernel_rfl) (fun u1 hu1 => iteF ?_)
        refine t_in false rfl (fun _ => rfl) (by decide) (by kernel_rfl) (by kernel_rfl) (fun u2 hu2 => iteF ?_)
        refine t_in false rfl (fun _ => rfl) (by decide) (by kernel_rfl) (by kernel_rfl) (fun u3 hu3 => iteF ?_)
        generalize hG9 : upd _ u3 _ = G9
        have S9 : StD H d sl cs.length G9 := by rw [← hG9]; exact (((S8.new hu0).new hu1).new hu2).new hu3
        clear hG9
        intro p hp
        have np : p ∉ [d, sl] := S9.nin hp
        generalize hP0 : upd G9 p _ = P0
        have SP0 : StD H d sl cs.length P0 := by rw [← hP0]; exact S9.new hp
        have p0 : P0 p = some (.dK []) := by rw [← hP0]; exact upd_same
        clear hP0
        refine ⟨_, rfl, ?_⟩
        refine SP0.off c63 rfl (fun _ h => h) (by decide) (by decide) (fun P1 v1 SP1 kk1 v10 v11 => ?_)
        have k1 : Tk P0 P1 := SP0.tk kk1
        have p1 : P1 p = some (.dK []) := kk1 _ _ p0 np
        refine ⟨by show 2 ≤ sizeLine; decide, fun t1 nt1 => ?_⟩
        generalize hP2 : upd P1 t1 _ = P2
        have SP2 : StD H d sl cs.length P2 := by rw [← hP2]; exact SP1.new nt1
        have k2 : Tk P1 P2 := by rw [← hP2]; exact Tk.same (Same.new (Same.refl _) nt1)
        have ht1 : P2 t1 = some (.tup [.int r, .int v1]) := by rw [← hP2]; exact upd_same
        have p2 : P2 p = some (.dK []) := by rw [← hP2, upd_ne (ne_of_none p1 nt1)]; exact p1
        clear hP2
        refine SP2.off c63 rfl (fun _ h => h) (by decide) (by decide) (fun P3 v2 SP3 kk3 v20 v21 => ?_)
        have k3 : Tk P2 P3 := SP2.tk kk3
        have p3 : P3 p = some (.dK []) := kk3 _ _ p2 np
        refine ⟨by show 1 ≤ sizeLine; decide, fun t2 nt2 => ?_⟩
        generalize hP4 : upd P3 t2 _ = P4
        have SP4 : StD H d sl cs.length P4 := by rw [← hP4]; exact SP3.new nt2
        have k4 : Tk P3 P4 := by rw [← hP4]; exact Tk.same (Same.new (Same.refl _) nt2)
        have ht2 : P4 t2 = some (.tup [.int v2]) := by rw [← hP4]; exact upd_same
        have p4 : P4 p = some (.dK []) := by rw [← hP4, upd_ne (ne_of_none p3 nt2)]; exact p3
        clear hP4
        refine ⟨_, rfl, ?_⟩
        refine SP4.off c63 rfl (fun _ h => h) (by decide) (by decide) (fun P5 v3 SP5 kk5 v30 v31 => ?_)
        have k5 : Tk P4 P5 := SP4.tk kk5
        have p5 : P5 p = some (.dK []) := kk5 _ _ p4 np
        refine ⟨by show 2 ≤ sizeLine; decide, fun t3 nt3 => ?_⟩
        generalize hP6 : upd P5 t3 _ = P6
        have SP6 : StD H d sl cs.length P6 := by rw [← hP6]; exact SP5.new nt3
        have k6 : Tk P5 P6 := by rw [← hP6]; exact Tk.same (Same.new (Same.refl _) nt3)
        have ht3 : P6 t3 = some (.tup [.int r, .int v3]) := by rw [← hP6]; exact upd_same
        have p6 : P6 p = some (.dK []) := by rw [← hP6, upd_ne (ne_of_none p5 nt3)]; exact p5
        clear hP6
        refine ⟨by show 0 ≤ sizeLine; decide, fun t4 nt4 => ?_⟩
        generalize hP7 : upd P6 t4 _ = P7
        have SP7 : StD H d sl cs.length P7 := by rw [← hP7]; exact SP6.new nt4
        have k7 : Tk P6 P7 := by rw [← hP7]; exact Tk.same (Same.new (Same.refl _) nt4)
        have ht4 : P7 t4 = some (.tup []) := by rw [← hP7]; exact upd_same
        have p7 : P7 p = some (.dK []) := by rw [← hP7, upd_ne (ne_of_none p6 nt4)]; exact p6
        clear hP7
        refine ⟨p7, [(Sum.inr "set", .ref t1), (Sum.inr "ask", .ref t2), (Sum.inr "done", .ref t3), (Sum.inr "end", .ref t4)], rfl, Nat.le_of_ble_eq_true rfl, ?_⟩
        generalize hM : mergeK [] _ = M
        generalize hP8 : upd P7 p _ = P8
        have kp8 : Kept [p] P7 P8 := by rw [← hP8]; exact (Kept.refl _ _).put (by simp)
        have k8 : Tk P7 P8 := Tk.put1 kp8 p7 rfl
        have SP8 : StD H d sl cs.length P8 := SP7.putP kp8 np (S9.free hp)
        have p8 : P8 p = some (.dK M) := by rw [← hP8]; exact upd_same
        clear hP8
        refine ⟨_, rfl, ?_⟩
        refine ⟨.inr (.inr (.inl ⟨rfl, .inl ⟨_, p8⟩⟩)), ?_⟩
        refine ⟨_, rfl, _, _, rfl, rfl, (by show (0 : Int) < 3; decide), ?_⟩
        refine ⟨by show 1 ≤ sizeLine; decide, fun a1 na1 => ?_⟩
        generalize hP9 : upd P8 a1 _ = P9
        have SP9 : StD H d sl cs.length P9 := by rw [← hP9]; exact SP8.new na1
        have k9 : Tk P8 P9 := by rw [← hP9]; exact Tk.same (Same.new (Same.refl _) na1)
        have ha1 : P9 a1 = some (.tup [.int (r % 3)]) := by rw [← hP9]; exact upd_same
        have p9 : P9 p = some (.dK M) := by rw [← hP9, upd_ne (ne_of_none p8 na1)]; exact p8
        clear hP9
        refine ⟨by show 2 ≤ sizeLine; decide, fun b1 nb1 => ?_⟩
        generalize hP10 : upd P9 b1 _ = P10
        have SP10 : StD H d sl cs.length P10 := by rw [← hP10]; exact SP9.new nb1
        have k10 : Tk P9 P10 := by rw [← hP10]; exact Tk.same (Same.new (Same.refl _) nb1)
        have hb1 : P10 b1 = some (.tup [.str "mark", .ref a1]) := by rw [← hP10]; exact upd_same
        have p10 : P10 p = some (.dK M) := by rw [← hP10, upd_ne (ne_of_none p9 nb1)]; exact p9
        clear hP10
        refine ⟨_, rfl, _, _, rfl, rfl, (by show (0 : Int) < 3; decide), ?_⟩
        refine ⟨by show 1 ≤ sizeLine; decide, fun a2 na2 => ?_⟩
        generalize hP11 : upd P10 a2 _ = P11
        have SP11 : StD H d sl cs.length P11 := by rw [← hP11]; exact SP10.new na2
        have k11 : Tk P10 P11 := by rw [← hP11]; exact Tk.same (Same.new (Same.refl _) na2)
        have ha2 : P11 a2 = some (.tup [.int (r % 3)]) := by rw [← hP11]; exact upd_same
        have p11 : P11 p = some (.dK M) := by rw [← hP11, upd_ne (ne_of_none p10 na2)]; exact p10
        clear hP11
        refine ⟨by show 2 ≤ sizeLine; decide, fun b2 nb2 => ?_⟩
        generalize hP12 : upd P11 b2 _ = P12
        have SP12 : StD H d sl cs.length P12 := by rw [← hP12]; exact SP11.new nb2
        have k12 : Tk P11 P12 := by rw [← hP12]; exact Tk.same (Same.new (Same.refl _) nb2)
        have hb2 : P12 b2 = some (.tup [.str "clear", .ref a2]) := by rw [← hP12]; exact upd_same
        have p12 : P12 p = some (.dK M) := by rw [← hP12, upd_ne (ne_of_none p11 nb2)]; exact p11
        clear hP12
        refine SP12.off c63 rfl (fun _ h => h) (by decide) (by decide) (fun P13 v4 SP13 kk13 v40 v41 => ?_)
        have k13 : Tk P12 P13 := SP12.tk kk13
        have p13 : P13 p = some (.dK M) := kk13 _ _ p12 np
        refine ⟨_, _, rfl, rfl, ?_⟩
        refine ⟨by show 1 ≤ sizeLine; decide, fun a3 na3 => ?_⟩
        generalize hP14 : upd P13 a3 _ = P14
        have SP14 : StD H d sl cs.length P14 := by rw [← hP14]; exact SP13.new na3
        have k14 : Tk P13 P14 := by rw [← hP14]; exact Tk.same (Same.new (Same.refl _) na3)
        have ha3 : P14 a3 = some (.tup [.int (1 + v4)]) := by rw [← hP14]; exact upd_same
        have p14 : P14 p = some (.dK M) := by rw [← hP14, upd_ne (ne_of_none p13 na3)]; exact p13
        clear hP14
        refine ⟨by show 2 ≤ sizeLine; decide, fun b3 nb3 => ?_⟩
        generalize hP15 : upd P14 b3 _ = P15
        have SP15 : StD H d sl cs.length P15 := by rw [← hP15]; exact SP14.new nb3
        have k15 : Tk P14 P15 := by rw [← hP15]; exact Tk.same (Same.new (Same.refl _) nb3)
        have hb3 : P15 b3 = some (.tup [.str "rest", .ref a3]) := by rw [← hP15]; exact upd_same
        have p15 : P15 p = some (.dK M) := by rw [← hP15, upd_ne (ne_of_none p14 nb3)]; exact p14
        clear hP15
        refine ⟨by show 3 ≤ sizeLine; decide, fun l nl => ?_⟩
        generalize hP16 : upd P15 l _ = P16
        have SP16 : StD H d sl cs.length P16 := by rw [← hP16]; exact SP15.new nl
        have k16 : Tk P15 P16 := by rw [← hP16]; exact Tk.same (Same.new (Same.refl _) nl)
        have hl : P16 l = some (.lst ([b1, b2, b3].map V.ref)) := by rw [← hP16]; exact upd_same
        have p16 : P16 p = some (.dK M) := by rw [← hP16, upd_ne (ne_of_none p15 nl)]; exact p15
        clear hP16
        refine ⟨p, l, [b1, b2, b3], M, [(Sum.inr "mark", .ref a1), (Sum.inr "clear", .ref a2), (Sum.inr "rest", .ref a3)], rfl, rfl, p16, hl, .cons (k16 _ _ (k15 _ _ (k14 _ _ (k13 _ _ (k12 _ _ (k11 _ _ hb1)))))) (.cons (k16 _ _ (k15 _ _ (k14 _ _ (k13 _ _ hb2)))) (.cons (k16 _ _ hb3) .nil)), ?_, ?_⟩
        · rw [← hM]; exact Nat.le_of_ble_eq_true (by kernel_rfl)
        generalize hN : mergeK M _ = N
        generalize hP17 : upd P16 p _ = P17
        have kp17 : Kept [p] P16 P17 := by rw [← hP17]; exact (Kept.refl _ _).put (by simp)
        have k17 : Tk P16 P17 := Tk.put1 kp17 p16 rfl
        have SP17 : StD H d sl cs.length P17 := SP16.putP kp17 np (S9.free hp)
        have p17 : P17 p = some (.dK N) := by rw [← hP17]; exact upd_same
        clear hP17
      · have hz := k17 _ _ (k16 _ _ (k15 _ _ (k14 _ _ (k13 _ _ (k12 _ _ (k11 _ _ (k10 _ _ (k9 _ _ (k8 _ _ (k7 _ _ (k6 _ _ (k5 _ _ (k4 _ _ (k3 _ _ (ht1)))))))))))))))
        refine ⟨_, rfl, by show 1 ≤ sizeLine; decide, fun y ny => ?_⟩
        have sy : Same P17 (upd P17 y (.tup [.str "set"])) := Same.new (Same.refl _) ny
        have hv : (some (V.ref t1) : Option V) = valV N (Sum.inr "set") := by rw [← hN, ← hM]; kernel_rfl
        refine ⟨_, rfl, _, rfl, p, .ref t1, rfl, .inl ⟨N, Sum.inr "set", .inl (sy _ _ p17), rfl, hv⟩, ?_⟩
        refine ⟨y, t1, _, _, rfl, rfl, SqT.of upd_same, SqT.of (sy _ _ hz), (by show 3 ≤ sizeLine; decide), (fun c => nomatch c), (fun _ c => nomatch c), fun _ _ t9 n9 => ?_⟩
        exact tup3 _ (.set r v1) (SP17.new ny) ⟨r3, v10, by omega⟩ (fun _ => ⟨fun _ => Row.noConfusion, fun _ _ => Row.noConfusion⟩) t9 n9
      · have hz := k17 _ _ (k16 _ _ (k15 _ _ (k14 _ _ (k13 _ _ (k12 _ _ (k11 _ _ (k10 _ _ (k9 _ _ (k8 _ _ (k7 _ _ (k6 _ _ (k5 _ _ (ht2)))))))))))))
        refine ⟨_, rfl, by show 1 ≤ sizeLine; decide, fun y ny => ?_⟩
        have sy : Same P17 (upd P17 y (.tup [.str "ask"])) := Same.new (Same.refl _) ny
        have hv : (some (V.ref t2) : Option V) = valV N (Sum.inr "ask") := by rw [← hN, ← hM]; kernel_rfl
        refine ⟨_, rfl, _, rfl, p, .ref t2, rfl, .inl ⟨N, Sum.inr "ask", .inl (sy _ _ p17), rfl, hv⟩, ?_⟩
        refine ⟨y, t2, _, _, rfl, rfl, SqT.of upd_same, SqT.of (sy _ _ hz), (by show 2 ≤ sizeLine; decide), (fun c => nomatch c), (fun _ c => nomatch c), fun _ _ t9 n9 => ?_⟩
        exact tup3 _ (.ask v2) (SP17.new ny) ⟨v20, by omega⟩ (fun _ => ⟨fun _ => Row.noConfusion, fun _ _ => Row.noConfusion⟩) t9 n9
      · have hz := k17 _ _ (k16 _ _ (k15 _ _ (k14 _ _ (k13 _ _ (k12 _ _ (k11 _ _ (k10 _ _ (k9 _ _ (k8 _ _ (k7 _ _ (ht3)))))))))))
        refine ⟨_, rfl, by show 1 ≤ sizeLine; decide, fun y ny => ?_⟩
        have sy : Same P17 (upd P17 y (.tup [.str "done"])) := Same.new (Same.refl _) ny
        have hv : (some (V.ref t3) : Option V) = valV N (Sum.inr "done") := by rw [← hN, ← hM]; kernel_rfl
        refine ⟨_, rfl, _, rfl, p, .ref t3, rfl, .inl ⟨N, Sum.inr "done", .inl (sy _ _ p17), rfl, hv⟩, ?_⟩
        refine ⟨y, t3, _, _, rfl, rfl, SqT.of upd_same, SqT.of (sy _ _ hz), (by show 3 ≤ sizeLine; decide), (fun c => nomatch c), (fun _ c => nomatch c), fun _ _ t9 n9 => ?_⟩
        exact tup3 _ (.done r v3) (SP17.new ny) ⟨r3, v30, by omega⟩ (fun _ => ⟨fun _ => Row.noConfusion, fun _ _ => Row.noConfusion⟩) t9 n9
      · have hz := k17 _ _ (k16 _ _ (k15 _ _ (k14 _ _ (k13 _ _ (k12 _ _ (k11 _ _ (k10 _ _ (ha1))))))))
        refine ⟨_, rfl, by show 1 ≤ sizeLine; decide, fun y ny => ?_⟩
        have sy : Same P17 (upd P17 y (.tup [.str "mark"])) := Same.new (Same.refl _) ny
        have hv : (some (V.ref a1) : Option V) = valV N (Sum.inr "mark") := by rw [← hN, ← hM]; kernel_rfl
        refine ⟨_, rfl, _, rfl, p, .ref a1, rfl, .inl ⟨N, Sum.inr "mark", .inl (sy _ _ p17), rfl, hv⟩, ?_⟩
        refine ⟨y, a1, _, _, rfl, rfl, SqT.of upd_same, SqT.of (sy _ _ hz), (by show 2 ≤ sizeLine; decide), (fun c => nomatch c), (fun _ c => nomatch c), fun _ _ t9 n9 => ?_⟩
        exact tup3 _ (.mark (r % 3)) (SP17.new ny) rm (fun _ => ⟨fun _ => Row.noConfusion, fun _ _ => Row.noConfusion⟩) t9 n9
      · have hz := k17 _ _ (k16 _ _ (k15 _ _ (k14 _ _ (k13 _ _ (k12 _ _ (ha2))))))
        refine ⟨_, rfl, by show 1 ≤ sizeLine; decide, fun y ny => ?_⟩
        have sy : Same P17 (upd P17 y (.tup [.str "clear"])) := Same.new (Same.refl _) ny
        have hv : (some (V.ref a2) : Option V) = valV N (Sum.inr "clear") := by rw [← hN, ← hM]; kernel_rfl
        refine ⟨_, rfl, _, rfl, p, .ref a2, rfl, .inl ⟨N, Sum.inr "clear", .inl (sy _ _ p17), rfl, hv⟩, ?_⟩
        refine ⟨y, a2, _, _, rfl, rfl, SqT.of upd_same, SqT.of (sy _ _ hz), (by show 2 ≤ sizeLine; decide), (fun c => nomatch c), (fun _ c => nomatch c), fun _ _ t9 n9 => ?_⟩
        exact tup3 _ (.clear (r % 3)) (SP17.new ny) rm (fun _ => ⟨fun _ => Row.noConfusion, fun _ _ => Row.noConfusion⟩) t9 n9
      · have hz := k17 _ _ (k16 _ _ (k15 _ _ (ha3)))
        refine ⟨_, rfl, by show 1 ≤ sizeLine; decide, fun y ny => ?_⟩
        have sy : Same P17 (upd P17 y (.tup [.str "rest"])) := Same.new (Same.refl _) ny
        have hv : (some (V.ref a3) : Option V) = valV N (Sum.inr "rest") := by rw [← hN, ← hM]; kernel_rfl
        refine ⟨_, rfl, _, rfl, p, .ref a3, rfl, .inl ⟨N, Sum.inr "rest", .inl (sy _ _ p17), rfl, hv⟩, ?_⟩
        refine ⟨y, a3, _, _, rfl, rfl, SqT.of upd_same, SqT.of (sy _ _ hz), (by show 2 ≤ sizeLine; decide), (fun c => nomatch c), (fun _ c => nomatch c), fun _ _ t9 n9 => ?_⟩
        exact tup3 _ (.rest (1 + v4)) (SP17.new ny) ⟨by omega, by omega⟩ (fun _ => ⟨fun _ => Row.noConfusion, fun _ _ => Row.noConfusion⟩) t9 n9
      · have hz := k17 _ _ (k16 _ _ (k15 _ _ (k14 _ _ (k13 _ _ (k12 _ _ (k11 _ _ (k10 _ _ (k9 _ _ (k8 _ _ (ht4))))))))))
        refine ⟨_, rfl, by show 1 ≤ sizeLine; decide, fun y ny => ?_⟩
        have sy : Same P17 (upd P17 y (.tup [.str "end"])) := Same.new (Same.refl _) ny
        have hv : (some (V.ref t4) : Option V) = valV N (Sum.inr "end") := by rw [← hN, ← hM]; kernel_rfl
        refine ⟨_, rfl, _, rfl, p, .ref t4, rfl, .inl ⟨N, Sum.inr "end", .inl (sy _ _ p17), rfl, hv⟩, ?_⟩
        refine ⟨y, t4, _, _, rfl, rfl, SqT.of upd_same, SqT.of (sy _ _ hz), (by show 1 ≤ sizeLine; decide), (fun c => nomatch c), fun _ _ => ?_, fun _ c => absurd rfl c⟩
        exact fin _ .fin y (SP17.new ny) (SP17.free ny) upd_same trivial (fun _ => ⟨fun _ => Row.noConfusion, fun _ _ => Row.noConfusion⟩)
end
end SB

set_option Elab.async false
set_option linter.all false
set_option maxRecDepth 100000
set_option maxHeartbeats 4000000
namespace SB
open PySem L2
section
variable {P : Program} {w : World} {K : PySem.W.Frag} {mg : Str → Option Value} {base : Heap}
def Straight (prog : List Row) : Prop := ∀ r ∈ prog, (∀ x, r ≠ .go x) ∧ ∀ x y, r ≠ .iff x y
def sp_l_program (K : PySem.W.Frag) : Sp := fun vs H Q _ => ∃ (d sl : Addr) (f p : Int) (cs : List Int) (st : Bool), vs = [.ref d, .bl st] ∧ DiceAt H d sl f p cs ∧ cs.length ≤ 63 ∧
  ∀ (H' : Hp) (f' p' : Int) (cs' : List Int) (pa : Addr) (rs : List Addr) (prog : List Row), DiceAt H' d sl f' p' cs' → cs'.length = cs.length → Kept [d, sl] H H' → H pa = none → ProgAt K H' pa rs prog → 0 < prog.length → prog.length ≤ 40 → (∀ r ∈ prog, r.ok prog.length) → (st = true → Straight prog) → Q (.ref pa) H'
theorem ok_l_program (T : T w K mg) : FnR P w K mg base CX0 3 (He.ga K "_law_program") (sp_l_program K) := by
  have F_l_off : FnR P w K mg base CX0 1 _ _ := ok_l_off T
  have F_l_row : FnR P w K mg base CX0 2 _ _ := ok_l_row T
  obtain ⟨fd, F⟩ := T.f_l_program
  refine F.r sc_l_program (fun _ _ _ _ _ _ us hl => match us, hl with | [_, _], _ => rfl) (fun vs H Q E h => ?_) (fun cdv A outer s H vs Q E hr h => ?_)
  · obtain ⟨_, _, _, _, _, _, rfl, _⟩ := h
    rfl
  · obtain ⟨d, sl, f, p, cs, st, rfl, D, c63, q⟩ := h
    refine ⟨_, (pss_cons (ps_set (i := 2) sc_l_program.nd rfl (Or.inr rfl) (pe_op op_add pe_int (pe_callR F_l_off (hr.mono (by decide)) rfl T.g_l_off T.k_l_off (pa_cons (pv 0) (pa_cons (pe_ix ix_list (pe_lst (pa_cons pe_int (pa_cons pe_int (pa_cons pe_int pa_nil)))) (pe_callR F_l_off (hr.mono (by decide)) rfl T.g_l_off T.k_l_off (pa_cons (pv 0) (pa_cons pe_int pa_nil))) (fun _ _ => rfl)) pa_nil)))))
      (pss_one (ps_ret (pe_callTy call_tuple_of rfl T.u_tuple (by decide +kernel) (pa_cons (pe_lc (own := [("_law_k", 3)]) (g := gName 3) (tt := tYes) (te := tCallR (sp_l_row K) (tCons (tVar 0) (tCons (tVar 2) (tCons (tVar 1) tNil)))) rfl sc_l_program.nd (pi_range1 rfl T.u_range (pa_cons (pv 2) pa_nil))
        (blkOk_by (N := ["_law_d", "_law_straight", "_law_many", "_law_k"]) (sc := defScope s_l_program) (by decide +kernel)) (fun _ _ _ _ _ => pg_name (i := 3) sc_l_program.nd rfl (Or.inl rfl)) (fun _ _ _ _ _ => pts_nil)
        (fun _ _ _ _ _ => pe_callR F_l_row (hr.mono (by decide)) rfl T.g_l_row T.k_l_row (pa_cons (pv 0) (pa_cons (pv 2) (pa_cons (pv 1) pa_nil))))) pa_nil))))), ?_⟩
    have S0 : StD H d sl cs.length H := ⟨f, p, cs, D, rfl, Kept.refl _ _⟩
    refine ⟨_, rfl, by show 3 ≤ sizeLine; decide, fun b hb => ?_⟩
    generalize hG1 : upd H b _ = G1
    have S1 : StD H d sl cs.length G1 := by rw [← hG1]; exact S0.new hb
    have e1 : G1 b = some (.lst [.int 8, .int 20, .int 40]) := by rw [← hG1]; exact upd_same
    have nb : b ∉ [d, sl] := S0.nin hb
    clear hG1
    refine S1.off c63 rfl (fun _ h => h) (by decide) (by decide) (fun G2 v S2 k2 v0 v1 => ?_)
    have e2 := k2 _ _ e1 nb
    obtain ⟨m, hm, m0, m40⟩ : ∃ m : Int, atI ([.int 8, .int 20, .int 40] : List V) v = some (.int m) ∧ 0 < m ∧ m ≤ 40 := by
      have : v = 0 ∨ v = 1 ∨ v = 2 := by omega
      rcases this with rfl | rfl | rfl
      · exact ⟨8, rfl, by decide, by decide⟩
      · exact ⟨20, rfl, by decide, by decide⟩
      · exact ⟨40, rfl, by decide, by decide⟩
    refine ⟨_, _, _, _, rfl, rfl, SqL.of e2, hm, ?_⟩
    obtain ⟨f2, p2, cs2, D2, c2, kk2⟩ := S2
    refine ⟨d, sl, f2, p2, cs2, m, rfl, D2, by omega, m0, by omega, fun G3 f3 p3 cs3 u D3 c3 k3 u0 u1 => ?_⟩
    refine ⟨_, _, rfl, rfl, ?_⟩
    have kk3 := kk2.trans k3
    refine ⟨_, rfl, 1 + u, rfl, by omega, by omega, fun R hR => ?_⟩
    have nR : R ∉ [d, sl] := D3.ned hR
    have hR0 : H R = none := kk3.free hR nR
    have sR : Same G3 (upd G3 R (.lst [])) := Same.new (Same.refl _) hR
    have Rd : R ≠ d := fun z => nR (by simp [z])
    have Rs : R ≠ sl := fun z => nR (by simp [z])
    refine lc_it walk_range (fun i H4 => ∃ (f4 p4 : Int) (cs4 : List Int) (rs : List Addr) (prog : List Row), DiceAt H4 d sl f4 p4 cs4 ∧ cs4.length = cs.length ∧ Kept [d, sl] H H4 ∧ TupsAt H4 R rs (prog.map Row.vs) ∧ prog.length = i ∧ (∀ r ∈ prog, r.ok (1 + u).toNat) ∧ (st = true → Straight prog))
      ⟨f3, p3, cs3, [], [], D3.same sR, by omega, kk3.new hR0, ⟨upd_same, rfl, fun j p vs e => by simp at e⟩, rfl, by simp, fun _ => by intro r hr; simp at hr⟩ (fun i H4 _ _ => trivial) ?_ ?_
    · rintro i x H4 H5 hi ⟨f4, p4, cs4, rs, prog, D4, c4, k4, tp, hl, ok, hs⟩ ⟨rfl, rfl⟩
      refine ⟨rfl, yes ?_⟩
      refine ⟨_, rfl, _, rfl, _, rfl, d, sl, f4, p4, cs4, 1 + u, st, rfl, D4, by omega, by omega, by omega, fun H6 f6 p6 cs6 t r D6 c6 k6 nt ht rok rst => ?_⟩
      have hR6 := k6 _ _ tp.lst nR
      have tk6 : Tk _ H6 := StD.tk (H := H) (n := cs.length) ⟨f4, p4, cs4, D4, c4, k4⟩ k6
      refine ⟨_, hR6, by rw [List.length_map, tp.len, List.length_map, hl]; exact Nat.lt_of_lt_of_le hi (Nat.le_trans (show (1 + u).toNat ≤ 40 by omega) (by decide)), f6, p6, cs6, rs ++ [t], prog ++ [r], ?_, by omega, (k4.trans k6).new hR0, ?_, by simp [hl], fun r' hr' => ?_, fun h r' hr' => ?_⟩
      · exact ⟨by rw [upd_ne (Ne.symm Rd)]; exact D6.ob, by rw [upd_ne (Ne.symm Rs)]; exact D6.ls, D6.f0, D6.f1, D6.p0, D6.ne⟩
      · rw [List.map_append]
        refine tups_snoc tp (by rw [upd_same, List.map_append]; rfl) ?_ (fun q us e => ?_)
        · rw [upd_ne (ne_of ht hR6 (by intro z; cases z))]
          exact ht
        · have e6 := tk6 _ _ e
          rw [upd_ne (ne_of e6 hR6 (by intro z; cases z))]
          exact e6
      · rcases List.mem_append.mp hr' with z | z
        · exact ok r' z
        · have e : r' = r := by simpa using z
          rw [e]
          exact rok
      · rcases List.mem_append.mp hr' with z | z
        · exact hs h r' z
        · have e : r' = r := by simpa using z
          rw [e]
          exact rst h
    · rintro H4 ⟨f4, p4, cs4, rs, prog, D4, c4, k4, tp, hl, ok, hs⟩
      refine ⟨_, _, rfl, .inl ⟨SqL.of tp.lst, fun pa hpa => ?_⟩⟩
      have s5 : Same H4 (upd H4 pa (.tup (rs.map V.ref))) := Same.new (Same.refl _) hpa
      have npa : H pa = none := k4.free hpa (D4.ned hpa)
      refine q _ f4 p4 cs4 pa rs prog (D4.same s5) c4 (k4.trans (Kept.same s5)) npa ⟨SqT.of upd_same, by rw [tp.len, List.length_map], fun j t r e1 e2 => SqT.of (s5 _ _ (tp.at_ j t _ e1 (by rw [List.getElem?_map, e2]; rfl)))⟩ (by omega) (by omega) ?_ hs
      intro r hr
      have := ok r hr
      rw [← hl] at this
      exact this
end
end SB

set_option Elab.async false
set_option linter.all false
set_option maxRecDepth 100000
set_option maxHeartbeats 2000000
namespace SB
open PySem L2
section
variable {P : Program} {w : World} {K : PySem.W.Frag} {mg : Str → Option Value} {base : Heap}
def sp_l_words (K : PySem.W.Frag) : Sp := fun vs H Q _ => ∃ (d sl : Addr) (f p : Int) (cs : List Int), vs = [.ref d] ∧ DiceAt H d sl f p cs ∧ cs.length ≤ 63 ∧
  ∀ (H' : Hp) (f' p' : Int) (cs' : List Int) (l : Addr) (ws : List Int), DiceAt H' d sl f' p' cs' → cs'.length = cs.length → Kept [d, sl] H H' → H l = none → H' l = some (.lst (ws.map V.int)) → 4 ≤ ws.length → ws.length ≤ 32 → (∀ x ∈ ws, rg 0 999 x) → Q (.ref l) H'
theorem ok_l_words (T : T w K mg) : FnR P w K mg base CX0 2 (He.ga K "_law_words") (sp_l_words K) := by
  have F_l_off : FnR P w K mg base CX0 1 _ _ := ok_l_off T
  obtain ⟨fd, F⟩ := T.f_l_words
  refine F.r sc_l_words (fun _ _ _ _ _ _ us hl => match us, hl with | [_], _ => rfl) (fun vs H Q E h => ?_) (fun cdv A outer s H vs Q E hr h => ?_)
  · obtain ⟨_, _, _, _, _, rfl, _⟩ := h
    rfl
  · obtain ⟨d, sl, f, p, cs, rfl, D, c63, q⟩ := h
    refine ⟨_, (pss_one (ps_ret (pe_lc (own := [("_law_k", 1)]) (g := gName 1) (tt := tYes) (te := tCallR (sp_l_off K) (tCons (tVar 0) (tCons (tC (.int 1000)) tNil))) rfl sc_l_words.nd
        (pi_range1 rfl T.u_range (pa_cons (pe_op op_add pe_int (pe_callR F_l_off (hr.mono (by decide)) rfl T.g_l_off T.k_l_off (pa_cons (pv 0) (pa_cons (pe_ix ix_list (pe_lst (pa_cons pe_int (pa_cons pe_int pa_nil))) (pe_callR F_l_off (hr.mono (by decide)) rfl T.g_l_off T.k_l_off (pa_cons (pv 0) (pa_cons pe_int pa_nil))) (fun _ _ => rfl)) pa_nil)))) pa_nil))
        (blkOk_by (N := ["_law_d", "_law_k"]) (sc := defScope s_l_words) (by decide +kernel))
        (fun _ _ _ _ _ => pg_name (i := 1) sc_l_words.nd rfl (Or.inl rfl)) (fun _ _ _ _ _ => pts_nil)
        (fun _ _ _ _ _ => pe_callR F_l_off (hr.mono (by decide)) rfl T.g_l_off T.k_l_off (pa_cons (pv 0) (pa_cons pe_int pa_nil)))))), ?_⟩
    refine ⟨_, rfl, ?_⟩ -- _law_d
    refine ⟨by show 2 ≤ sizeLine; decide, fun b hb => ?_⟩ -- [5, 29]
    have s1 : Same H (upd H b (.lst [.int 5, .int 29])) := Same.new (Same.refl H) hb
    refine ⟨_, rfl, d, sl, f, p, cs, 2, rfl, D.same s1, c63, by decide, by decide, fun H2 f2 p2 cs2 v D2 c2 k2 v0 v1 => ?_⟩ -- off(2)
    have kb : H2 b = some (.lst [.int 5, .int 29]) := by
      refine k2 _ _ upd_same ?_
      have h1 : b ≠ d := fun z => by rw [z, D.ob] at hb; cases hb
      have h2 : b ≠ sl := fun z => by rw [z, D.ls] at hb; cases hb
      simp [h1, h2]
    obtain ⟨m, hm, m0, m1⟩ : ∃ m : Int, atI ([.int 5, .int 29] : List V) v = some (.int m) ∧ 5 ≤ m ∧ m ≤ 29 := by
      have : v = 0 ∨ v = 1 := by omega
      rcases this with rfl | rfl
      · exact ⟨5, rfl, by decide, by decide⟩
      · exact ⟨29, rfl, by decide, by decide⟩
    refine ⟨_, _, _, _, rfl, rfl, SqL.of kb, hm, ?_⟩
    refine ⟨d, sl, f2, p2, cs2, m, rfl, D2, by omega, by omega, by omega, fun H3 f3 p3 cs3 n D3 c3 k3 n0 n1 => ?_⟩ -- off(m)
    refine ⟨_, _, rfl, rfl, ?_⟩
    refine ⟨4 + n, rfl, by omega, by omega, fun R hR => ?_⟩
    have kk3 : Kept [d, sl] H H3 := ((Kept.same s1).trans k2).trans k3
    have fr : ∀ {H9 : Hp} {f9 p9 : Int} {cs9 : List Int} {y : Addr}, Kept [d, sl] H H9 → DiceAt H9 d sl f9 p9 cs9 → H9 y = none → H y = none := fun {H9 f9 p9 cs9 y} k9 D9 hy => by
      refine k9.free hy fun z => ?_
      have e : y = d ∨ y = sl := by simpa using z
      rcases e with rfl | rfl
      · rw [D9.ob] at hy; cases hy
      · rw [D9.ls] at hy; cases hy
    have hR0 : H R = none := fr kk3 D3 hR
    have Rd : R ≠ d := fun z => by rw [z, D.ob] at hR0; cases hR0
    have Rs : R ≠ sl := fun z => by rw [z, D.ls] at hR0; cases hR0
    have sR : Same H3 (upd H3 R (.lst [])) := Same.new (Same.refl H3) hR
    refine lc_it walk_range (fun i H4 => ∃ (f4 p4 : Int) (cs4 ws : List Int), DiceAt H4 d sl f4 p4 cs4 ∧ cs4.length = cs.length ∧ Kept [d, sl] H H4 ∧ H4 R = some (.lst (ws.map V.int)) ∧ ws.length = i ∧ ∀ x ∈ ws, rg 0 999 x)
      ⟨f3, p3, cs3, [], D3.same sR, by omega, kk3.new hR0, upd_same, rfl, by simp⟩ (fun i H4 _ _ => trivial) ?_ ?_
    · rintro i x H4 H5 hi ⟨f4, p4, cs4, ws, D4, c4, k4, hR4, hl, hx⟩ ⟨rfl, rfl⟩
      refine ⟨rfl, yes ?_⟩
      refine ⟨_, rfl, d, sl, f4, p4, cs4, 1000, rfl, D4, by omega, by decide, by decide, fun H6 f6 p6 cs6 v6 D6 c6 k6 v60 v61 => ?_⟩
      have hR6 : H6 R = some (.lst (ws.map V.int)) := k6 _ _ hR4 (by simp [Rd, Rs])
      refine ⟨_, hR6, by rw [List.length_map, hl]; exact Nat.lt_of_lt_of_le hi (Nat.le_trans (show (4 + n).toNat ≤ 100 by omega) (by decide)), f6, p6, cs6, ws ++ [v6], ?_, by omega, ?_, ?_, by simp [hl], ?_⟩
      · exact ⟨by rw [upd_ne (Ne.symm Rd)]; exact D6.ob, by rw [upd_ne (Ne.symm Rs)]; exact D6.ls, D6.f0, D6.f1, D6.p0, D6.ne⟩
      · exact (k4.trans k6).new hR0
      · rw [upd_same, List.map_append]
        rfl
      · intro y hy
        rcases List.mem_append.mp hy with hy | hy
        · exact hx y hy
        · have e : y = v6 := by simpa using hy
          rw [e]
          exact ⟨v60, by omega⟩
    · rintro H4 ⟨f4, p4, cs4, ws, D4, c4, k4, hR4, hl, hx⟩
      exact q _ f4 p4 cs4 R ws D4 c4 k4 hR0 hR4 (by omega) (by omega) hx
end
end SB

set_option Elab.async false
set_option linter.all false
set_option maxRecDepth 100000
set_option maxHeartbeats 2000000
namespace SB
open PySem L2
def rIxLT (K : PySem.W.Frag) : R2 := fun x y H Q => rIxL K x y H Q ∨ rIxT K x y H Q
theorem ix_lt {X : Cx} : IxR X (rIxLT X.K) := by
  intro value slice pins s σ H x y v u Q I rx ry h e
  rcases h with h | h
  · exact ix_list value slice pins s σ H x y v u Q I rx ry h e
  · exact ix_tup value slice pins s σ H x y v u Q I rx ry h e
inductive Sm : PyData → Prop
  | non : Sm .none
  | bl (b : Bool) : Sm (.bool b)
  | int (i : Int) : Sm (.int i)
  | str (x : Str) : Sm (.str x)
  | lst {ds : List PyData} (h : ds.length ≤ 1000) (a : ∀ d ∈ ds, Sm d) : Sm (.list ds)
  | tup {ds : List PyData} (h : ds.length ≤ 1000) (a : ∀ d ∈ ds, Sm d) : Sm (.tuple ds)
  | wide {ds : List PyData} (h : ds.length ≤ 1000000) (a : ∀ d ∈ ds, Sm d) : Sm (.list ds)
theorem depth_mem : ∀ {ds : List PyData} {d : PyData}, d ∈ ds → PyData.depth d ≤ PyData.depthAll ds
  | x :: r, d, h => by
    show _ ≤ max (PyData.depth x) (PyData.depthAll r)
    rcases List.mem_cons.mp h with rfl | h
    · exact Nat.le_max_left _ _
    · exact Nat.le_trans (depth_mem h) (Nat.le_max_right _ _)
section
variable {P : Program} {w : World} {K : PySem.W.Frag} {mg : Str → Option Value} {base : Heap} {H H' : Hp}
theorem dpAll_at : ∀ {xs : List V} {ds : List PyData}, DpAll K H xs ds → xs.length = ds.length ∧ ∀ (j : Nat) (x : V) (d : PyData), xs[j]? = some x → ds[j]? = some d → Dp K H x d
  | _, _, .nil => ⟨rfl, fun j x d e => by simp at e⟩
  | _, _, .cons h t => by
    obtain ⟨h1, h2⟩ := dpAll_at t
    refine ⟨by simp [h1], fun j x d e1 e2 => ?_⟩
    cases j with
    | zero =>
      have a1 := Option.some.inj e1
      have a2 := Option.some.inj e2
      subst a1 a2
      exact h
    | succ j => exact h2 j x d (by simpa using e1) (by simpa using e2)
mutual
theorem dp_same (s : Same H H') : ∀ {v : V} {d : PyData}, Dp K H v d → Dp K H' v d
  | _, _, .non => .non
  | _, _, .bl b => .bl b
  | _, _, .int i => .int i
  | _, _, .str x => .str x
  | _, _, .lst h t => .lst (s.seq h) (dpAll_same s t)
  | _, _, .tup h t => .tup (Same.tup s h) (dpAll_same s t)
theorem dpAll_same (s : Same H H') : ∀ {vs : List V} {ds : List PyData}, DpAll K H vs ds → DpAll K H' vs ds
  | _, _, .nil => .nil
  | _, _, .cons h t => .cons (dp_same s h) (dpAll_same s t)
end
def sp_alike (K : PySem.W.Frag) (n : Nat) : Sp := fun vs H Q _ => ∃ (x y : V) (d : PyData), vs = [x, y] ∧ Dp K H x d ∧ Dp K H y d ∧ Sm d ∧ PyData.depth d ≤ n ∧ ∀ H', Same H H' → Q (.bl true) H'
theorem alike_step (T : T w K mg) {n k : Nat} {spI : Sp} (G : FnR P w K mg base CX0 (k + 1) (He.ga K "_law_alike") spI) (hI : ∀ m, n = m + 1 → spI = sp_alike K m) : FnR P w K mg base CX0 (k + 2) (He.ga K "_law_alike") (sp_alike K n) := by
  obtain ⟨fd, F⟩ := T.f_l_alike
  refine F.r sc_l_alike (fun _ _ _ _ _ _ us hl => match us, hl with | [_, _], _ => rfl) (fun vs H Q E h => ?_) (fun cdv A outer s H vs Q E hr h => ?_)
  · obtain ⟨_, _, _, rfl, _⟩ := h
    rfl
  · obtain ⟨x, y, D, rfl, hx, hy, sm, dep, q⟩ := h
    refine ⟨_, (pss_cons (ps_if (pt_cmp (pc_isN (pv 1)))
  (pss_one (ps_ret (pe_cmp (pc_isN (pv 0)))))
  pss_nil)
  (pss_cons (ps_if (pt_val (pe_isi (n := "bool") rfl T.u_isinstance rfl T.u_bool (pv 1)))
  (pss_one (ps_ret (pe_and (pe_isi (n := "bool") rfl T.u_isinstance rfl T.u_bool (pv 0)) (pe_one (pe_cmpR op_eq (pv 0) (pv 1) (nomark _))))))
  pss_nil)
  (pss_cons (ps_if (pt_val (pe_isi (n := "int") rfl T.u_isinstance rfl T.u_int (pv 1)))
  (pss_one (ps_ret (pe_and (pe_isi (n := "int") rfl T.u_isinstance rfl T.u_int (pv 0)) (pe_and (pe_not (pe_isi (n := "bool") rfl T.u_isinstance rfl T.u_bool (pv 0))) (pe_one (pe_cmpR op_eq (pv 0) (pv 1) (nomark _)))))))
  pss_nil)
  (pss_cons (ps_if (pt_val (pe_isi (n := "str") rfl T.u_isinstance rfl T.u_str (pv 1)))
  (pss_one (ps_ret (pe_and (pe_isi (n := "str") rfl T.u_isinstance rfl T.u_str (pv 0)) (pe_one (pe_cmpR op_eq (pv 0) (pv 1) (nomark _))))))
  pss_nil)
  (pss_cons (ps_if (PW.pt (pw_or (pt_cmpR op_ne (pe_isi (n := "tuple") rfl T.u_isinstance rfl T.u_tuple (pv 1)) (pe_isi (n := "tuple") rfl T.u_isinstance rfl T.u_tuple (pv 0)) (nomark _)) (pw_or1 (pt_cmpR op_ne (pe_isi (n := "list") rfl T.u_isinstance rfl T.u_list (pv 1)) (pe_isi (n := "list") rfl T.u_isinstance rfl T.u_list (pv 0)) (nomark _)))))
  (pss_one (ps_ret pe_bl))
  pss_nil)
  (pss_cons (ps_if (pt_cmpR op_ne (pe_callB call_len_seq rfl T.u_len PySem.boot_len (pa_cons (pv 0) pa_nil)) (pe_callB call_len_seq rfl T.u_len PySem.boot_len (pa_cons (pv 1) pa_nil)) (nomark _))
  (pss_one (ps_ret pe_bl))
  pss_nil)
  (pss_one (ps_ret (pe_callB (cr_all rfl) rfl T.u_all (by decide +kernel) (pa_cons (pe_lc (own := [("_law_k", 2)]) (g := gName 2) (tt := tYes) (te := tCallR spI (tCons (tOp (rIxLT K) (tVar 0) (tVar 2)) (tCons (tOp (rIxLT K) (tVar 1) (tVar 2)) tNil))) rfl sc_l_alike.nd (pi_range1 rfl T.u_range (pa_cons (pe_callB call_len_seq rfl T.u_len PySem.boot_len (pa_cons (pv 1) pa_nil)) pa_nil)) (blkOk_by (N := ["_law_found", "_law_due", "_law_k"]) (sc := defScope s_l_alike) (by decide +kernel)) (fun _ _ _ _ _ => pg_name (i := 2) sc_l_alike.nd rfl (Or.inl rfl)) (fun _ _ _ _ _ => pts_nil) (fun _ _ _ _ _ => pe_callR G (hr.mono (by omega)) rfl T.g_l_alike T.k_l_alike (pa_cons (pe_ix ix_lt (pv 0) (pv 2) (fun _ _ => rfl)) (pa_cons (pe_ix ix_lt (pv 1) (pv 2) (fun _ _ => rfl)) pa_nil)))) pa_nil)))))))))), ?_⟩
    cases hx with
    | non =>
      cases hy
      exact ⟨_, rfl, _, rfl, iteT ⟨_, rfl, q _ (Same.refl _)⟩⟩
    | bl b =>
      cases hy
      refine ⟨_, rfl, _, rfl, iteF ?_⟩
      refine ⟨_, rfl, rfl, "bool", .bl _, _, rfl, iteT ?_⟩
      refine ⟨_, rfl, rfl, "bool", .bl _, _, rfl, iteT ?_⟩
      refine ⟨_, rfl, _, rfl, rfl, ?_⟩
      rw [decide_eq_true rfl]
      exact q _ (Same.refl _)
    | int i =>
      cases hy
      refine ⟨_, rfl, _, rfl, iteF ?_⟩
      refine ⟨_, rfl, rfl, "int", .int _, _, rfl, iteF ?_⟩
      refine ⟨_, rfl, rfl, "int", .int _, _, rfl, iteT ?_⟩
      refine ⟨_, rfl, rfl, "int", .int _, _, rfl, iteT ?_⟩
      refine ⟨_, rfl, rfl, "int", .int _, _, rfl, _, rfl, iteT ?_⟩
      refine ⟨_, rfl, _, rfl, rfl, ?_⟩
      rw [decide_eq_true rfl]
      exact q _ (Same.refl _)
    | str z =>
      cases hy
      refine ⟨_, rfl, _, rfl, iteF ?_⟩
      refine ⟨_, rfl, rfl, "str", .str _, _, rfl, iteF ?_⟩
      refine ⟨_, rfl, rfl, "str", .str _, _, rfl, iteF ?_⟩
      refine ⟨_, rfl, rfl, "str", .str _, _, rfl, iteT ?_⟩
      refine ⟨_, rfl, rfl, "str", .str _, _, rfl, iteT ?_⟩
      refine ⟨_, rfl, _, rfl, rfl, ?_⟩
      rw [decide_eq_true rfl]
      exact q _ (Same.refl _)
    | lst hxs dxs =>
      rename_i a xs ds
      cases hy with
      | lst hys dys =>
        rename_i b ys
        obtain ⟨lx, ax⟩ := dpAll_at dxs
        obtain ⟨ly, ay⟩ := dpAll_at dys
        have hsm : ds.length ≤ 1000000 ∧ ∀ d ∈ ds, Sm d := by
          cases sm with
          | lst h a => exact ⟨by omega, a⟩
          | wide h a => exact ⟨h, a⟩
        have dep' : PyData.depthAll ds + 1 ≤ n := dep
        obtain ⟨m, hm⟩ : ∃ m, n = m + 1 := ⟨n - 1, by omega⟩
        have eI := hI m hm
        have lxy : xs.length = ys.length := by omega
        refine ⟨_, rfl, _, rfl, iteF ?_⟩
        refine ⟨_, rfl, rfl, "list", .lst hys, _, rfl, iteF ?_⟩
        refine ⟨_, rfl, rfl, "list", .lst hys, _, rfl, iteF ?_⟩
        refine ⟨_, rfl, rfl, "list", .lst hys, _, rfl, iteF ?_⟩
        refine ⟨_, rfl, rfl, "list", .lst hys, _, rfl, rfl, "list", .lst hxs, rfl, _, rfl, ?_⟩
        rw [decide_eq_true rfl]
        refine iteF ⟨_, rfl, rfl, "list", .lst hys, _, rfl, rfl, "list", .lst hxs, rfl, _, rfl, ?_⟩
        rw [decide_eq_true rfl]
        refine iteF ?_
        refine ⟨_, rfl, _, _, rfl, .inl hxs, _, rfl, _, _, rfl, .inl hys, rfl, _, rfl, ?_⟩
        rw [lxy, decide_eq_true rfl]
        refine iteF ?_
        refine ⟨_, rfl, _, _, rfl, .inl hys, (ys.length : Int), rfl, by omega, by omega, fun R nR => ?_⟩
        refine lc_it walk_range (fun i H2 => H2 R = some (.lst ((List.replicate i true).map V.bl)) ∧ Same H H2) ⟨upd_same, Same.new (Same.refl _) nR⟩ (fun _ _ _ _ => trivial) ?_ ?_
        · rintro i x H2 H2' hi ⟨hR, s2⟩ ⟨rfl, rfl⟩
          have hi' : i < ys.length := by simpa using hi
          obtain ⟨xi, hxi⟩ : ∃ xi, xs[i]? = some xi := ⟨_, List.getElem?_eq_getElem (by omega)⟩
          obtain ⟨yi, hyi⟩ : ∃ yi, ys[i]? = some yi := ⟨_, List.getElem?_eq_getElem hi'⟩
          obtain ⟨di, hdi⟩ : ∃ di, ds[i]? = some di := ⟨_, List.getElem?_eq_getElem (by omega)⟩
          have atx : ∀ (zs : List V) (z : V), zs[i]? = some z → atI zs (0 + (i : Nat)) = some z := fun zs z hz => by
            have hl := (List.getElem?_eq_some_iff.mp hz).1
            unfold atI ixN
            rw [if_pos (by omega), if_pos (by omega)]
            have e : ((0 : Int) + (i : Nat)).toNat = i := by omega
            simp [hz]
          refine ⟨rfl, yes ?_⟩
          refine ⟨_, rfl, _, rfl, .inl ⟨_, _, _, xi, rfl, rfl, (s2.seq hxs), atx _ _ hxi, ?_⟩⟩
          refine ⟨_, rfl, _, rfl, .inl ⟨_, _, _, yi, rfl, rfl, (s2.seq hys), atx _ _ hyi, ?_⟩⟩
          have hmem := List.mem_of_getElem? hdi
          have hdd := depth_mem hmem
          have key : ∀ Q' : VK, (∀ H3, Same H2' H3 → Q' (.bl true) H3) → spI [xi, yi] H2' Q' E0 := fun Q' k => by
            rw [eI]
            exact ⟨xi, yi, di, rfl, dp_same s2 (ax i xi di hxi hdi), dp_same s2 (ay i yi di hyi hdi), hsm.2 di hmem, by omega, k⟩
          dsimp only [tNil]
          refine key _ (fun H3 s3 => ?_)
          refine ⟨_, s3 _ _ hR, ?_, ?_, Same.new (s2.trans s3) nR⟩
          · rw [List.length_map, List.length_replicate]
            exact Nat.lt_of_lt_of_le (show i < 1000000 by omega) (by decide)
          · rw [upd_same, List.replicate_succ', List.map_append]
            rfl
        · rintro H2 ⟨hR, s2⟩
          refine ⟨R, _, rfl, SqL.of hR, ?_⟩
          rw [show ∀ k : Nat, (List.replicate k true).all id = true from fun k => by simp]
          exact q _ s2
    | tup hxs dxs =>
      rename_i a xs ds
      cases hy with
      | tup hys dys =>
        rename_i b ys
        obtain ⟨lx, ax⟩ := dpAll_at dxs
        obtain ⟨ly, ay⟩ := dpAll_at dys
        have hsm : ds.length ≤ 1000 ∧ ∀ d ∈ ds, Sm d := by cases sm; exact ⟨by assumption, by assumption⟩
        have dep' : PyData.depthAll ds + 1 ≤ n := dep
        obtain ⟨m, hm⟩ : ∃ m, n = m + 1 := ⟨n - 1, by omega⟩
        have eI := hI m hm
        have lxy : xs.length = ys.length := by omega
        refine ⟨_, rfl, _, rfl, iteF ?_⟩
        refine ⟨_, rfl, rfl, "tuple", .tup hys, _, rfl, iteF ?_⟩
        refine ⟨_, rfl, rfl, "tuple", .tup hys, _, rfl, iteF ?_⟩
        refine ⟨_, rfl, rfl, "tuple", .tup hys, _, rfl, iteF ?_⟩
        refine ⟨_, rfl, rfl, "tuple", .tup hys, _, rfl, rfl, "tuple", .tup hxs, rfl, _, rfl, ?_⟩
        rw [decide_eq_true rfl]
        refine iteF ⟨_, rfl, rfl, "tuple", .tup hys, _, rfl, rfl, "tuple", .tup hxs, rfl, _, rfl, ?_⟩
        rw [decide_eq_true rfl]
        refine iteF ?_
        refine ⟨_, rfl, _, _, rfl, .inr hxs, _, rfl, _, _, rfl, .inr hys, rfl, _, rfl, ?_⟩
        rw [lxy, decide_eq_true rfl]
        refine iteF ?_
        refine ⟨_, rfl, _, _, rfl, .inr hys, (ys.length : Int), rfl, by omega, by omega, fun R nR => ?_⟩
        refine lc_it walk_range (fun i H2 => H2 R = some (.lst ((List.replicate i true).map V.bl)) ∧ Same H H2) ⟨upd_same, Same.new (Same.refl _) nR⟩ (fun _ _ _ _ => trivial) ?_ ?_
        · rintro i x H2 H2' hi ⟨hR, s2⟩ ⟨rfl, rfl⟩
          have hi' : i < ys.length := by simpa using hi
          obtain ⟨xi, hxi⟩ : ∃ xi, xs[i]? = some xi := ⟨_, List.getElem?_eq_getElem (by omega)⟩
          obtain ⟨yi, hyi⟩ : ∃ yi, ys[i]? = some yi := ⟨_, List.getElem?_eq_getElem hi'⟩
          obtain ⟨di, hdi⟩ : ∃ di, ds[i]? = some di := ⟨_, List.getElem?_eq_getElem (by omega)⟩
          have atx : ∀ (zs : List V) (z : V), zs[i]? = some z → atI zs (0 + (i : Nat)) = some z := fun zs z hz => by
            have hl := (List.getElem?_eq_some_iff.mp hz).1
            unfold atI ixN
            rw [if_pos (by omega), if_pos (by omega)]
            have e : ((0 : Int) + (i : Nat)).toNat = i := by omega
            simp [hz]
          refine ⟨rfl, yes ?_⟩
          refine ⟨_, rfl, _, rfl, .inr ⟨_, _, _, xi, rfl, rfl, (Same.tup s2 hxs), atx _ _ hxi, ?_⟩⟩
          refine ⟨_, rfl, _, rfl, .inr ⟨_, _, _, yi, rfl, rfl, (Same.tup s2 hys), atx _ _ hyi, ?_⟩⟩
          have hmem := List.mem_of_getElem? hdi
          have hdd := depth_mem hmem
          have key : ∀ Q' : VK, (∀ H3, Same H2' H3 → Q' (.bl true) H3) → spI [xi, yi] H2' Q' E0 := fun Q' k => by
            rw [eI]
            exact ⟨xi, yi, di, rfl, dp_same s2 (ax i xi di hxi hdi), dp_same s2 (ay i yi di hyi hdi), hsm.2 di hmem, by omega, k⟩
          dsimp only [tNil]
          refine key _ (fun H3 s3 => ?_)
          refine ⟨_, s3 _ _ hR, ?_, ?_, Same.new (s2.trans s3) nR⟩
          · rw [List.length_map, List.length_replicate]
            exact Nat.lt_of_lt_of_le (show i < 1000 by omega) (by decide)
          · rw [upd_same, List.replicate_succ', List.map_append]
            rfl
        · rintro H2 ⟨hR, s2⟩
          refine ⟨R, _, rfl, SqL.of hR, ?_⟩
          rw [show ∀ k : Nat, (List.replicate k true).all id = true from fun k => by simp]
          exact q _ s2
theorem alike_none (T : T w K mg) : FnR P w K mg base CX0 1 (He.ga K "_law_alike") (fun _ _ _ _ => False) := by
  obtain ⟨fd, F⟩ := T.f_l_alike
  exact F.r sc_l_alike (fun _ _ _ _ _ _ us hl => match us, hl with | [_, _], _ => rfl) (fun vs H Q E h => h.elim) (fun cdv A outer s H vs Q E hr h => h.elim)
theorem ok_l_alike (T : T w K mg) : ∀ n, FnR P w K mg base CX0 (n + 2) (He.ga K "_law_alike") (sp_alike K n)
  | 0 => alike_step T (k := 0) (alike_none T) (fun m h => by omega)
  | n + 1 => alike_step T (k := n + 1) (ok_l_alike T n) (fun m h => by rw [Nat.succ.inj h])
end
end SB


set_option Elab.async false
set_option linter.all false
set_option maxRecDepth 100000
set_option maxHeartbeats 4000000
namespace SB
open PySem L2
open TL (tl split_join join_eq)
def ptT : V → Str
  | .int i => Str.ofString (toString i)
  | .str z => z
  | _ => "-"
def wordsT : List Str := ["words", "work", "at", "set", "add", "less", "get", "put", "getx", "putx", "pair", "lay", "go", "if", "ask", "done", "mark", "clear", "rest", "end", "all", "turn", "idle"]
def isPt : V → Prop
  | .int i => rg 0 999 i
  | .str z => z ∈ wordsT
  | .non => True
  | _ => False
theorem num_forall {p : Str → Int → Bool} (h : (List.range 1000).all (fun n => p (Str.ofString (toString (n : Int))) (n : Int)) = true) {i : Int} (hi : rg 0 999 i) : p (Str.ofString (toString i)) i = true := by
  obtain ⟨n, rfl⟩ : ∃ n : Nat, i = (n : Int) := ⟨i.toNat, by have := hi.1; omega⟩
  exact List.all_eq_true.mp h n (List.mem_range.mpr (by have := hi.2; omega))
theorem num_len {i : Int} (hi : rg 0 999 i) : (Str.ofString (toString i)).length ≤ 3 := by
  have := num_forall (p := fun z _ => decide (z.length ≤ 3)) (by decide +kernel) hi
  exact of_decide_eq_true this
theorem pt_len {v : V} (h : isPt v) : (ptT v).length ≤ 5 := by
  cases v with
  | int i => exact Nat.le_trans (num_len h) (by decide)
  | str z =>
    have h : z ∈ wordsT := h
    have : wordsT.all (fun z => decide (z.length ≤ 5)) = true := by decide +kernel
    exact of_decide_eq_true (List.all_eq_true.mp this z h)
  | non => decide +kernel
  | _ => exact absurd h (fun z => z)
theorem pt_free {v : V} (h : isPt v) : 32 ∉ tl (ptT v) ∧ 10 ∉ tl (ptT v) := by
  cases v with
  | int i =>
    have := num_forall (p := fun z _ => !decide (32 ∈ tl z) && !decide (10 ∈ tl z)) (by decide +kernel) (show rg 0 999 i from h)
    show 32 ∉ tl (Str.ofString (toString i)) ∧ 10 ∉ tl (Str.ofString (toString i))
    rw [Bool.and_eq_true, Bool.not_eq_true', Bool.not_eq_true'] at this
    exact ⟨of_decide_eq_false this.1, of_decide_eq_false this.2⟩
  | str z =>
    have h : z ∈ wordsT := h
    have : wordsT.all (fun z => !decide (32 ∈ tl z) && !decide (10 ∈ tl z)) = true := by decide +kernel
    have := List.all_eq_true.mp this z h
    show 32 ∉ tl z ∧ 10 ∉ tl z
    rw [Bool.and_eq_true, Bool.not_eq_true', Bool.not_eq_true'] at this
    exact ⟨of_decide_eq_false this.1, of_decide_eq_false this.2⟩
  | non => exact ⟨by decide +kernel, by decide +kernel⟩
  | _ => exact absurd h (fun z => z)
def rowT (vs : List V) : Str := Txt.join " " (vs.map ptT)
section
variable {P : Program} {w : World} {K : PySem.W.Frag} {mg : Str → Option Value} {base : Heap} {H H' : Hp}
theorem call_strA {X : Cx} : CallR X (.type "str") (fun xs H Q => (∃ i, xs = [.int i] ∧ i.natAbs.log2 < 1920 ∧ Q (.str (toString i)) H) ∨ ∃ a, xs = [.str a] ∧ Q (.str a) H) := by
  intro pins s σ H xs us Q I r h
  rcases h with h | h
  · exact call_str_int pins s σ H xs us Q I r h
  · exact SkE.call_str_str pins s σ H xs us Q I r h
def sp_part_text (K : PySem.W.Frag) : Sp := fun vs H Q _ => ∃ v, vs = [v] ∧ isPt v ∧ Q (.str (ptT v)) H
theorem log_999 {i : Int} (h : rg 0 999 i) : i.natAbs.log2 < 1920 := by
  obtain ⟨h1, h2⟩ := h
  have : i.natAbs.log2 ≤ i.natAbs := Nat.log2_le_self _
  omega
theorem ok_part_text (T : T w K mg) : FnR P w K mg base CX0 1 (He.ga K "part_text") (sp_part_text K) := by
  obtain ⟨t1, g_NOTHING⟩ := T.i_NOTHING
  obtain ⟨fd, F⟩ := T.f_part_text
  refine F.r sc_part_text (fun _ _ _ _ _ _ us hl => match us, hl with | [_], _ => rfl) (fun vs H Q E h => ?_) (fun cdv A outer s H vs Q E hr h => ?_)
  · obtain ⟨_, rfl, _⟩ := h
    rfl
  · obtain ⟨v, rfl, hv, q⟩ := h
    refine ⟨_, (pss_one (ps_ret (pe_ifExp (pt_cmp (pc_isN (pv 0))) (pe_glob (v := .str "-") rfl g_NOTHING ⟨_, rfl⟩) (pe_callTy call_strA rfl T.u_str (by decide +kernel) (pa_cons (pv 0) pa_nil))))), ?_⟩
    refine ⟨_, rfl, _, rfl, ?_⟩
    cases v with
    | non => exact iteT q
    | int i => exact iteF ⟨_, rfl, .inl ⟨i, rfl, log_999 hv, q⟩⟩
    | str z => exact iteF ⟨_, rfl, .inr ⟨z, rfl, q⟩⟩
    | _ => exact absurd hv (fun z => z)
theorem parts_lc {te : TE} {σ : L2.St} {H : Hp} {i : Nat} {a : Addr} {xs : List V} {sp : Sp} (hi : i < σ.length) (ht : SqT K H a xs ∨ SqL K H a xs) (hp : ∀ v ∈ xs, isPt v) (h : True) : True := trivial
theorem join_len {ys : List Str} {y : Str} {m n : Nat} (h : ∀ z ∈ ys, z.length ≤ m) (hl : ys.length ≤ n) : (ys.map (·.length)).sum + ys.length * y.length ≤ n * m + n * y.length := by
  have h1 : (ys.map (·.length)).sum ≤ ys.length * m := by
    induction ys with
    | nil => simp
    | cons z r ih =>
      have h0 := h z List.mem_cons_self
      have := ih (fun x hx => h x (List.mem_cons_of_mem _ hx)) (by simp at hl; omega)
      simp only [List.map_cons, List.sum_cons, List.length_cons]
      rw [Nat.add_mul]
      omega
  have h2 : ys.length * m ≤ n * m := Nat.mul_le_mul_right _ hl
  have h3 : ys.length * y.length ≤ n * y.length := Nat.mul_le_mul_right _ hl
  omega
theorem joinT_len {ys : List Str} {y : Str} {m n : Nat} (h : ∀ z ∈ ys, z.length ≤ m) (hl : ys.length ≤ n) : (Txt.join y ys).length ≤ n * m + n * y.length := by
  rw [join_eq]
  exact Nat.le_trans (StrLaws.join_length_le y ys) (join_len h hl)
end
end SB

set_option Elab.async false
set_option linter.all false
set_option maxRecDepth 100000
set_option maxHeartbeats 4000000
namespace SB
open PySem L2
open TL (tl split_join join_eq)
section
variable {P : Program} {w : World} {K : PySem.W.Frag} {mg : Str → Option Value} {base : Heap} {H H' : Hp}
theorem wipe28 {σ : L2.St} {i : Nat} {x : Option V} : wipe ((wipe σ [i]).set i x) [i] = wipe σ [i] := by
  simp [wipe]
theorem look28 {σ : L2.St} {i : Nat} {x : Option V} (h : i < σ.length) : ((wipe σ [i]).set i x)[i]? = some x := by
  simp [wipe, h]
theorem texts_lc {σ : L2.St} {i : Nat} {a : Addr} {xs : List V} {f : V → Str} {te : TE} {ti : TI} {Q : VK} (hi : i < σ.length) (hl : xs.length ≤ 1000)
    (hti : (ti = iTup K (tVar 0) ∧ SqT K H a xs) ∨ (ti = iList K (tVar 0) ∧ SqL K H a xs)) (h0 : σ[0]? = some (some (.ref a)))
    (hte : ∀ (σ2 : L2.St) (H3 : Hp) (x : V) (Q' : VK), x ∈ xs → σ2[i]? = some (some x) → Q' (.str (f x)) H3 → te σ2 H3 Q')
    (q : ∀ (H' : Hp) (R : Addr), H' R = some (.lst ((xs.map f).map V.str)) → Same H H' → Q (.ref R) H') : tLc ti (gName i) tYes te [i] σ H Q := by
  have key : ∀ (R : Addr) (H5 : Hp) (k : Nat) (x : V), H R = none → xs[k]? = some x → (H5 R = some (.lst (((xs.take k).map f).map V.str)) ∧ Same H H5) → gName i x (wipe σ [i]) H5 fun σ2 H2 => wipe σ2 [i] = wipe σ [i] ∧ tYes σ2 H2 fun b H3 => if b = true then te σ2 H3 fun y H4 => ∃ acc, H4 R = some (.lst acc) ∧ acc.length < sizeLine ∧ ((upd H4 R (.lst (acc ++ [y]))) R = some (.lst (((xs.take (k + 1)).map f).map V.str)) ∧ Same H (upd H4 R (.lst (acc ++ [y])))) else (H3 R = some (.lst (((xs.take (k + 1)).map f).map V.str)) ∧ Same H H3) := by
    rintro R H5 k x nR hx ⟨hR, s5⟩
    have hk := (List.getElem?_eq_some_iff.mp hx).1
    refine ⟨wipe28, yes ?_⟩
    refine hte _ _ x _ (List.mem_of_getElem? hx) (look28 hi) ?_
    refine ⟨_, hR, ?_, ?_, ?_⟩
    · rw [List.length_map, List.length_map, List.length_take]
      exact Nat.lt_of_le_of_lt (show min k xs.length ≤ 1000 by omega) (by decide)
    · rw [upd_same, List.take_add_one, hx, List.map_append, List.map_append]
      rfl
    · intro b o e
      rw [upd_ne (ne_of_none e nR)]
      exact s5 _ _ e
  rcases hti with ⟨rfl, ht⟩ | ⟨rfl, ht⟩
  · refine ⟨_, h0, a, rfl, ⟨xs, ht⟩, fun R nR => ?_⟩
    refine lc_tup (K := K) (a := a) (xs := xs) (fun k H5 => H5 R = some (.lst (((xs.take k).map f).map V.str)) ∧ Same H H5) ⟨upd_same, Same.new (Same.refl _) nR⟩ (fun k H5 _ ⟨_, s5⟩ => Same.tup s5 ht) (fun k x H5 hx hP => key R H5 k x nR hx hP) ?_
    rintro H5 ⟨hR, s5⟩
    rw [List.take_length] at hR
    exact q _ _ hR s5
  · refine ⟨_, h0, a, rfl, ⟨xs, ht⟩, fun R nR => ?_⟩
    refine lc_list (K := K) (a := a) (xs := xs) (fun k H5 => H5 R = some (.lst (((xs.take k).map f).map V.str)) ∧ Same H H5) ⟨upd_same, Same.new (Same.refl _) nR⟩ (fun k H5 _ ⟨_, s5⟩ => s5.seq ht) (fun k x H5 hx hP => key R H5 k x nR hx hP) ?_
    rintro H5 ⟨hR, s5⟩
    rw [List.take_length] at hR
    exact q _ _ hR s5
theorem row_ok {xs : List V} (hx : ∀ v ∈ xs, isPt v) (hl : xs.length ≤ 40) : ((xs.map ptT).map (·.length)).sum + (xs.map ptT).length * (" " : Str).length ≤ 16777216 := by
  have h1 : ∀ z ∈ xs.map ptT, z.length ≤ 5 := fun z hz => by
    obtain ⟨v, hv, rfl⟩ := List.mem_map.mp hz
    exact pt_len (hx v hv)
  have := join_len (y := (" " : Str)) h1 (n := 40) (by rw [List.length_map]; exact hl)
  exact Nat.le_trans this (by decide +kernel)
def sp_row_text (K : PySem.W.Frag) : Sp := fun vs H Q _ => ∃ (p : Addr) (xs : List V), vs = [.ref p] ∧ SqT K H p xs ∧ (∀ v ∈ xs, isPt v) ∧ xs.length ≤ 40 ∧ ∀ H', Same H H' → Q (.str (rowT xs)) H'
theorem ok_row_text (T : T w K mg) : FnR P w K mg base CX0 2 (He.ga K "row_text") (sp_row_text K) := by
  have F_part_text : FnR P w K mg base CX0 1 _ _ := ok_part_text T
  obtain ⟨fd, F⟩ := T.f_row_text
  refine F.r sc_row_text (fun _ _ _ _ _ _ us hl => match us, hl with | [_], _ => rfl) (fun vs H Q E h => ?_) (fun cdv A outer s H vs Q E hr h => ?_)
  · obtain ⟨_, _, rfl, _⟩ := h
    rfl
  · obtain ⟨p, xs, rfl, ht, hx, hl, q⟩ := h
    refine ⟨_, (pss_one (ps_ret (pe_join pe_str (pe_lc (own := [("part", 1)]) (g := gName 1) (tt := tYes) (te := tCallR (sp_part_text K) (tCons (tVar 1) tNil)) rfl sc_row_text.nd (pi_tup (pv 0)) (blkOk_by (N := ["row", "part"]) (sc := defScope s_row_text) (by decide +kernel)) (fun _ _ _ _ _ => pg_name (i := 1) sc_row_text.nd rfl (Or.inl rfl)) (fun _ _ _ _ _ => pts_nil) (fun _ _ _ _ _ => pe_callR F_part_text (hr.mono (by decide)) rfl T.g_part_text T.k_part_text (pa_cons (pv 1) pa_nil)))))), ?_⟩
    refine ⟨⟨_, rfl⟩, ?_⟩
    refine texts_lc (K := K) (f := ptT) (by show 1 < 2; decide) (Nat.le_trans hl (by decide)) (.inl ⟨rfl, ht⟩) rfl (fun σ2 H3 x Q' hxx h1 k => ⟨_, h1, x, rfl, hx x hxx, k⟩) (fun H' R hR s' => ?_)
    exact ⟨" ", R, xs.map ptT, rfl, rfl, .inl (SqL.of hR), row_ok hx hl, q _ s'⟩
def sp_l_line (K : PySem.W.Frag) : Sp := fun vs H Q _ => ∃ (p : Addr) (xs : List V), vs = [.ref p] ∧ (SqT K H p xs ∨ SqL K H p xs) ∧ (∀ v ∈ xs, isPt v) ∧ xs.length ≤ 40 ∧ ∀ H', Same H H' → Q (.str (rowT xs)) H'
theorem ok_l_line (T : T w K mg) : FnR P w K mg base CX0 1 (He.ga K "_law_line") (sp_l_line K) := by
  obtain ⟨fd, F⟩ := T.f_l_line
  refine F.r sc_l_line (fun _ _ _ _ _ _ us hl => match us, hl with | [_], _ => rfl) (fun vs H Q E h => ?_) (fun cdv A outer s H vs Q E hr h => ?_)
  · obtain ⟨_, _, rfl, _⟩ := h
    rfl
  · obtain ⟨p, xs, rfl, ht, hx, hl, q⟩ := h
    have hte : ∀ (σ2 : L2.St) (H3 : Hp) (x : V) (Q' : VK), x ∈ xs → σ2[1]? = some (some x) → Q' (.str (ptT x)) H3 → tIf (tB (tIsN (tVar 1))) (tC (.str "-")) (tCB (fun xs H Q => (∃ i, xs = [.int i] ∧ i.natAbs.log2 < 1920 ∧ Q (.str (toString i)) H) ∨ ∃ a, xs = [.str a] ∧ Q (.str a) H) (tCons (tVar 1) tNil)) σ2 H3 Q' := fun σ2 H3 x Q' hxx h1 k => by
      have hv := hx x hxx
      refine ⟨_, h1, _, rfl, ?_⟩
      cases x with
      | non => exact iteT k
      | int i => exact iteF ⟨_, h1, .inl ⟨i, rfl, log_999 hv, k⟩⟩
      | str z => exact iteF ⟨_, h1, .inr ⟨z, rfl, k⟩⟩
      | _ => exact absurd hv (fun z => z)
    rcases ht with ht | ht
    · refine ⟨_, (pss_one (ps_ret (pe_join pe_str (pe_lc (own := [("_law_part", 1)]) (g := gName 1) (tt := tYes) (te := tIf (tB (tIsN (tVar 1))) (tC (.str "-")) (tCB (fun xs H Q => (∃ i, xs = [.int i] ∧ i.natAbs.log2 < 1920 ∧ Q (.str (toString i)) H) ∨ ∃ a, xs = [.str a] ∧ Q (.str a) H) (tCons (tVar 1) tNil))) rfl sc_l_line.nd (pi_tup (pv 0)) (blkOk_by (N := ["_law_parts", "_law_part"]) (sc := defScope s_l_line) (by decide +kernel)) (fun _ _ _ _ _ => pg_name (i := 1) sc_l_line.nd rfl (Or.inl rfl)) (fun _ _ _ _ _ => pts_nil) (fun _ _ _ _ _ => pe_ifExp (pt_cmp (pc_isN (pv 1))) pe_str (pe_callTy call_strA rfl T.u_str (by decide +kernel) (pa_cons (pv 1) pa_nil))))))), ?_⟩
      refine ⟨⟨_, rfl⟩, ?_⟩
      refine texts_lc (K := K) (f := ptT) (by show 1 < 2; decide) (Nat.le_trans hl (by decide)) (.inl ⟨rfl, ht⟩) rfl hte (fun H' R hR s' => ?_)
      exact ⟨" ", R, xs.map ptT, rfl, rfl, .inl (SqL.of hR), row_ok hx hl, q _ s'⟩
    · refine ⟨_, (pss_one (ps_ret (pe_join pe_str (pe_lc (own := [("_law_part", 1)]) (g := gName 1) (tt := tYes) (te := tIf (tB (tIsN (tVar 1))) (tC (.str "-")) (tCB (fun xs H Q => (∃ i, xs = [.int i] ∧ i.natAbs.log2 < 1920 ∧ Q (.str (toString i)) H) ∨ ∃ a, xs = [.str a] ∧ Q (.str a) H) (tCons (tVar 1) tNil))) rfl sc_l_line.nd (pi_list (pv 0)) (blkOk_by (N := ["_law_parts", "_law_part"]) (sc := defScope s_l_line) (by decide +kernel)) (fun _ _ _ _ _ => pg_name (i := 1) sc_l_line.nd rfl (Or.inl rfl)) (fun _ _ _ _ _ => pts_nil) (fun _ _ _ _ _ => pe_ifExp (pt_cmp (pc_isN (pv 1))) pe_str (pe_callTy call_strA rfl T.u_str (by decide +kernel) (pa_cons (pv 1) pa_nil))))))), ?_⟩
      refine ⟨⟨_, rfl⟩, ?_⟩
      refine texts_lc (K := K) (f := ptT) (by show 1 < 2; decide) (Nat.le_trans hl (by decide)) (.inr ⟨rfl, ht⟩) rfl hte (fun H' R hR s' => ?_)
      exact ⟨" ", R, xs.map ptT, rfl, rfl, .inl (SqL.of hR), row_ok hx hl, q _ s'⟩
end
end SB

set_option Elab.async false
set_option linter.all false
set_option maxRecDepth 100000
set_option maxHeartbeats 4000000
namespace SB
open PySem L2
open TL (tl split_join join_eq)
section
variable {P : Program} {w : World} {K : PySem.W.Frag} {mg : Str → Option Value} {base : Heap} {H H' : Hp}
def wkV (k : Wk) : List V := .str "work" :: k.vs
def atV (a : Int × Int) : List V := [.str "at", .int a.1, .int a.2]
def rowsV (prog : List Row) (ks : List Wk) (ws : List Int) (as : List (Int × Int)) : List (List V) := [V.str "words" :: ws.map V.int] ++ ks.map wkV ++ prog.map Row.vs ++ as.map atV
def textV (rows : List (List V)) : Str := Txt.join "\n" (rows.map rowT)
structure RwsAt (K : PySem.W.Frag) (H : Hp) (ps : List Addr) (rows : List (List V)) : Prop where
  len : ps.length = rows.length
  at_ : ∀ (j : Nat) (p : Addr) (r : List V), ps[j]? = some p → rows[j]? = some r → SqT K H p r
theorem RwsAt.same {ps : List Addr} {rows : List (List V)} (h : RwsAt K H ps rows) (s : Same H H') : RwsAt K H' ps rows := ⟨h.len, fun j p r e1 e2 => Same.tup s (h.at_ j p r e1 e2)⟩
theorem RwsAt.app {ps qs : List Addr} {rows more : List (List V)} (h : RwsAt K H ps rows) (h2 : RwsAt K H qs more) : RwsAt K H (ps ++ qs) (rows ++ more) := by
  refine ⟨by rw [List.length_append, List.length_append, h.len, h2.len], fun j p r e1 e2 => ?_⟩
  by_cases hj : j < ps.length
  · rw [List.getElem?_append_left hj] at e1
    rw [List.getElem?_append_left (by rw [← h.len]; exact hj)] at e2
    exact h.at_ j p r e1 e2
  · rw [List.getElem?_append_right (by omega)] at e1
    rw [List.getElem?_append_right (by rw [← h.len]; omega), ← h.len] at e2
    exact h2.at_ _ p r e1 e2
theorem RwsAt.one {p : Addr} {r : List V} (h : SqT K H p r) : RwsAt K H [p] [r] := ⟨rfl, fun j q s e1 e2 => by
  have hj : j = 0 := by
    have := (List.getElem?_eq_some_iff.mp e1).1
    simpa using this
  subst hj
  cases e1
  cases e2
  exact h⟩
theorem TupsAt.rws {R : Addr} {ps : List Addr} {rows : List (List V)} (h : TupsAt H R ps rows) : RwsAt K H ps rows := ⟨h.len, fun j p r e1 e2 => SqT.of (h.at_ j p r e1 e2)⟩
theorem ProgAt.rws {pa : Addr} {rs : List Addr} {prog : List Row} (h : ProgAt K H pa rs prog) : RwsAt K H rs (prog.map Row.vs) := ⟨by rw [h.len, List.length_map], fun j p r e1 e2 => by
  rw [List.getElem?_map] at e2
  cases hx : prog[j]? with
  | none => rw [hx] at e2; cases e2
  | some x =>
    rw [hx] at e2
    cases e2
    exact h.at_ j p x e1 hx⟩
theorem pt_row {r : Row} {n : Nat} (h : r.ok n) (hn : n ≤ 40) : ∀ v ∈ r.vs, isPt v := by
  have hw : ∀ z : Str, z ∈ wordsT → isPt (.str z) := fun z h => h
  intro v hv
  cases r <;> simp [Row.vs, Row.ok, rg] at hv h <;> (first | (rcases hv with rfl | rfl | rfl) | (rcases hv with rfl | rfl) | (rcases hv with rfl) | (subst hv)) <;> first | (exact hw _ (by decide +kernel)) | (exact ⟨by omega, by omega⟩)
theorem pt_wk {k : Wk} {n : Nat} (h : WOk n k) (hn : n ≤ 6) : ∀ v ∈ wkV k, isPt v := by
  intro v hv
  have hv : v ∈ [V.str "work", .int k.begin, .int k.goal, .int k.many, .int k.block, .str k.greed, oV k.mark, oV k.follow] := hv
  have hm : isPt (oV k.mark) := by
    cases e : k.mark with
    | none => trivial
    | some i =>
      have := h.mar i e
      exact ⟨this.1, Int.le_trans this.2 (by decide)⟩
  have hf : isPt (oV k.follow) := by
    cases e : k.follow with
    | none => trivial
    | some i =>
      have := h.fo i e
      exact ⟨this.1, by omega⟩
  have hg : isPt (.str k.greed) := by
    rcases h.gr with e | e | e <;> rw [e] <;> (show _ ∈ wordsT) <;> decide +kernel
  have b := h.b
  have g := h.g
  have m := h.m
  have c := h.c
  simp only [rg] at b g m c
  simp only [List.mem_cons, List.not_mem_nil, or_false] at hv
  rcases hv with rfl | rfl | rfl | rfl | rfl | rfl | rfl | rfl
  · show _ ∈ wordsT
    decide +kernel
  · exact ⟨b.1, by omega⟩
  · exact ⟨g.1, by omega⟩
  · exact ⟨by omega, by omega⟩
  · exact ⟨by omega, by omega⟩
  · exact hg
  · exact hm
  · exact hf
theorem pt_all {prog : List Row} {ks : List Wk} {ws : List Int} {as : List (Int × Int)} (p40 : prog.length ≤ 40) (pok : ∀ r ∈ prog, r.ok prog.length) (k6 : ks.length ≤ 6) (kok : ∀ k ∈ ks, WOk ks.length k) (wok : ∀ x ∈ ws, rg 0 999 x) (w32 : ws.length ≤ 32) (ao : AOk ks.length as) : ∀ r ∈ rowsV prog ks ws as, (∀ v ∈ r, isPt v) ∧ r.length ≤ 40 ∧ r ≠ [] := by
  intro r hr
  unfold rowsV at hr
  rcases List.mem_append.mp hr with hr | hr
  · rcases List.mem_append.mp hr with hr | hr
    · rcases List.mem_append.mp hr with hr | hr
      · have e : r = V.str "words" :: ws.map V.int := by simpa using hr
        rw [e]
        refine ⟨fun v hv => ?_, by rw [List.length_cons, List.length_map]; omega, by simp⟩
        rcases List.mem_cons.mp hv with z | z
        · rw [z]
          show _ ∈ wordsT
          decide +kernel
        · obtain ⟨x, hx, rfl⟩ := List.mem_map.mp z
          exact wok x hx
      · obtain ⟨k, hk, rfl⟩ := List.mem_map.mp hr
        exact ⟨pt_wk (kok k hk) k6, by show 8 ≤ 40; decide, by simp [wkV]⟩
    · obtain ⟨x, hx, rfl⟩ := List.mem_map.mp hr
      refine ⟨pt_row (pok x hx) p40, ?_, ?_⟩
      · cases x <;> simp [Row.vs]
      · cases x <;> simp [Row.vs]
  · obtain ⟨a, ha, rfl⟩ := List.mem_map.mp hr
    obtain ⟨h1, h2, h3⟩ := ao.each a ha
    refine ⟨fun v hv => ?_, by show 3 ≤ 40; decide, by simp [atV]⟩
    have hv : v = V.str "at" ∨ v = .int a.1 ∨ v = .int a.2 := by simpa [atV] using hv
    rcases hv with e | e | e <;> rw [e]
    · show _ ∈ wordsT
      decide +kernel
    · exact ⟨h1.1, Int.le_trans h1.2 (by decide)⟩
    · exact ⟨h2, by omega⟩
theorem rowsV_len {prog : List Row} {ks : List Wk} {ws : List Int} {as : List (Int × Int)} (p40 : prog.length ≤ 40) (k6 : ks.length ≤ 6) (a8 : as.length ≤ 8) : (rowsV prog ks ws as).length ≤ 55 := by
  unfold rowsV
  rw [List.length_append, List.length_append, List.length_append, List.length_map, List.length_map, List.length_map]
  show 1 + _ + _ + _ ≤ 55
  omega
end
end SB

set_option Elab.async false
set_option linter.all false
set_option maxRecDepth 100000
set_option maxHeartbeats 2000000
namespace L2
open PySem PySem.Spec PyProof.Rows
theorem list_extend_tupA (l : Addr) (items : Array Value) (n : Nat) (b : Addr) (items2 : Array Value) (n2 : Nat) (dd : Option Addr) (sl : Array (Option Value)) (hs0 : ¬(!items.isEmpty && Builtin.List.listTooLong (items.size + items2.size)) = true) (hs1 : items.size ≤ sizeLine) (hs2 : items.size + items2.size ≤ sizeLine + 1) :
    Meets (Builtin.«list.extend» ⟨[.ref l, .ref b], []⟩) (fun _ R s => s.heap.get? l = some { cls := .type "list", dict := none, data := .seq items n, slots := #[] } ∧ s.heap.get? b = some { cls := .type "tuple", dict := dd, data := .seq items2 n2, slots := sl } ∧ R (.ok (.ret Value.none)) { s with heap := s.heap.update l (Obj.mapSeq fun x => x ++ items2), toks := s.toks }) :=
  .of_wp fun prog w A R s h => by
    obtain ⟨hp, g, d, tk, os⟩ := s; obtain ⟨hl, hb, h⟩ := h; have f1 := AutoSeq1.idx_int; have f2 := AutoSeq1.sub_tuple_tuple; have f3 := AutoSeq1.sub_list_list; have f4 := AutoSeq1.sub_tuple_list; have f5 := AutoSeq1.sub_list_tuple;
    have hz' : (items ++ items2).size ≤ sizeLine + 1 := by rw [Array.size_append]; exact hs2
    wp_walk using (wpAny_updateSeq hl rfl (hz := hs1) (_hz' := hz')), wpAny_loadPart' hl, wpAny_loadPart' hb; exact ⟨_, rfl, h⟩
def rExtT (K : PySem.W.Frag) : V → List V → Hp → VK → Prop := fun x vs H Q => ∃ l b xs zs, x = .ref l ∧ vs = [.ref b] ∧ H l = some (.lst xs) ∧ SqT K H b zs ∧ xs.length + zs.length ≤ sizeLine ∧ Q .non (upd H l (.lst (xs ++ zs)))
theorem mt_extT {X : Cx} : MtM X "list.extend" (rExtT X.K) := by
  intro pins s σ H x vs v us Q I rx rv h
  obtain ⟨l, b, xs, zs, rfl, rfl, hH, hB, hz, q⟩ := h
  cases rx
  obtain ⟨u, rfl, ru⟩ := rv.one
  cases ru
  obtain ⟨z, its, n, r, hl, e⟩ := I.lstM hH
  obtain ⟨its2, r2, ⟨⟨cls, dd, data, sl⟩, ho, hc, n2, hd⟩, hs⟩ := I.tuple hB
  simp only at hc hd
  subst hc hd
  have hl2 : its2.length = zs.length := r2.length.symm
  have hsz : its.toArray.size + its2.toArray.size ≤ sizeLine := by rw [List.size_toArray, List.size_toArray]; omega
  have hlong : ¬ (!its.toArray.isEmpty && Builtin.List.listTooLong (its.toArray.size + its2.toArray.size)) = true := by
    rw [notLongL hsz, Bool.and_false]
    exact Bool.false_ne_true
  refine call_meets F.slot_list_extend ⟨_, e, rfl⟩ F.entry_list_extend (F.args_list_extend_2 _ _)
    (list_extend_tupA l its.toArray n b its2.toArray n2 dd sl hlong (by rw [List.size_toArray]; omega) (by omega)) ⟨e, ho, ?_⟩
  refine ⟨.non, _, I.lset (its' := its ++ its2) hH e (by simp) (r.append r2) ?_, rfl, q⟩
  rw [List.length_append]
  omega
end L2

set_option Elab.async false
set_option linter.all false
set_option maxRecDepth 100000
set_option maxHeartbeats 4000000
namespace SB
open PySem L2 StX
open TL (tl split_join join_eq)
section
variable {P : Program} {w : World} {K : PySem.W.Frag} {mg : Str → Option Value} {base : Heap} {H H' : Hp}
theorem star_lc {σ : L2.St} {i n : Nat} {a : Addr} {ps : List Addr} {vss : List (List V)} {z : Str} {Q : VK} (hi : i < σ.length) (hn : σ[n]? = some (some (.ref a))) (L : SqL K H a (ps.map V.ref)) (W : RwsAt K H ps vss) (hl : vss.length ≤ 1000) (hv : ∀ vs ∈ vss, vs.length ≤ 100)
    (q : ∀ (H' : Hp) (R : Addr) (us : List Addr), TupsAt H' R us (vss.map fun vs => V.str z :: vs) → Same H H' → H R = none → Q (.ref R) H') :
    tLc (iList K (tVar n)) (gName i) tYes (tTup (tCons (tC (.str z)) (tStar K (tVar i) tNil))) [i] σ H Q := by
  refine ⟨_, hn, a, rfl, ⟨_, L⟩, fun R nR => ?_⟩
  refine lc_list (K := K) (a := a) (xs := ps.map V.ref) (fun k H5 => ∃ us, TupsAt H5 R us ((vss.take k).map fun vs => V.str z :: vs) ∧ Same H H5)
    ⟨[], ⟨upd_same, rfl, fun j p vs e => by simp at e⟩, Same.new (Same.refl _) nR⟩ (fun k H5 _ ⟨_, _, s5⟩ => s5.seq L) ?_ ?_
  · rintro k x H5 hx ⟨us, T5, s5⟩
    rw [List.getElem?_map] at hx
    cases hp : ps[k]? with
    | none => rw [hp] at hx; cases hx
    | some p =>
      rw [hp] at hx
      cases hx
      have hk : k < vss.length := by rw [← W.len]; exact (List.getElem?_eq_some_iff.mp hp).1
      have hr := List.getElem?_eq_getElem hk
      have ht := Same.tup s5 (W.at_ k p _ hp hr)
      have hvl := hv _ (List.mem_of_getElem? hr)
      generalize vss[k] = vs at hr ht hvl
      refine ⟨wipe28, yes ?_⟩
      refine ⟨_, look28 hi, p, vs, rfl, .inl ht, ?_, fun t nt => ?_⟩
      · rw [List.append_nil]
        show vs.length + 1 ≤ sizeLine
        exact Nat.le_trans (show vs.length + 1 ≤ 101 by omega) (by decide)
      · rw [List.append_nil]
        have s6 : Same H5 (upd H5 t (.tup (.str z :: vs))) := Same.new (Same.refl _) nt
        have h6 : upd H5 t (.tup (.str z :: vs)) t = some (.tup (.str z :: vs)) := upd_same
        generalize upd H5 t (.tup (.str z :: vs)) = H6 at s6 h6
        have T6 := T5.keep s6
        refine ⟨_, T6.lst, ?_, us ++ [t], ?_, ?_⟩
        · rw [List.length_map, T6.len, List.length_map, List.length_take]
          exact Nat.lt_of_le_of_lt (show min k vss.length ≤ 1000 by omega) (by decide)
        · have := T6.push h6
          rw [List.map_append (l₁ := us)] at this
          rw [List.take_add_one, hr, List.map_append (l₁ := vss.take k)]
          exact this
        · intro b o e
          rw [upd_ne (ne_of_none e nR)]
          exact s6 _ _ (s5 _ _ e)
  · rintro H5 ⟨us, T5, s5⟩
    rw [List.length_map, W.len, List.take_length] at T5
    exact q _ R us T5 s5 nR
theorem rows_lc {σ : L2.St} {i n : Nat} {a : Addr} {ps : List Addr} {rows : List (List V)} {Q : VK} {te : TE} (hi : i < σ.length) (hn : σ[n]? = some (some (.ref a))) (L : SqL K H a (ps.map V.ref)) (W : RwsAt K H ps rows) (hl : rows.length ≤ 1000)
    (hte : ∀ (σ2 : L2.St) (H3 : Hp) (p : Addr) (r : List V) (Q' : VK), r ∈ rows → SqT K H3 p r → σ2[i]? = some (some (.ref p)) → (∀ H4, Same H3 H4 → Q' (.str (rowT r)) H4) → te σ2 H3 Q')
    (q : ∀ (H' : Hp) (R : Addr), H' R = some (.lst ((rows.map rowT).map V.str)) → Same H H' → Q (.ref R) H') :
    tLc (iList K (tVar n)) (gName i) tYes te [i] σ H Q := by
  refine ⟨_, hn, a, rfl, ⟨_, L⟩, fun R nR => ?_⟩
  refine lc_list (K := K) (a := a) (xs := ps.map V.ref) (fun k H5 => H5 R = some (.lst (((rows.take k).map rowT).map V.str)) ∧ Same H H5)
    ⟨upd_same, Same.new (Same.refl _) nR⟩ (fun k H5 _ ⟨_, s5⟩ => s5.seq L) ?_ ?_
  · rintro k x H5 hx ⟨hR, s5⟩
    rw [List.getElem?_map] at hx
    cases hp : ps[k]? with
    | none => rw [hp] at hx; cases hx
    | some p =>
      rw [hp] at hx
      cases hx
      have hk : k < rows.length := by rw [← W.len]; exact (List.getElem?_eq_some_iff.mp hp).1
      have hr := List.getElem?_eq_getElem hk
      have ht := Same.tup s5 (W.at_ k p _ hp hr)
      refine ⟨wipe28, yes ?_⟩
      refine hte _ _ p _ _ (List.mem_of_getElem? hr) ht (look28 hi) (fun H6 s6 => ?_)
      refine ⟨_, s6 _ _ hR, ?_, ?_, ?_⟩
      · rw [List.length_map, List.length_map, List.length_take]
        exact Nat.lt_of_le_of_lt (show min k rows.length ≤ 1000 by omega) (by decide)
      · rw [upd_same, List.take_add_one, hr, List.map_append, List.map_append]
        rfl
      · intro b o e
        rw [upd_ne (ne_of_none e nR)]
        exact s6 _ _ (s5 _ _ e)
  · rintro H5 ⟨hR, s5⟩
    rw [List.length_map, W.len, List.take_length] at hR
    exact q _ R hR s5
structure Good28 (K : PySem.W.Frag) (H : Hp) (pa wl ml al : Addr) (rs ts qs : List Addr) (prog : List Row) (ks : List Wk) (ws : List Int) (as : List (Int × Int)) : Prop where
  pr : ProgAt K H pa rs prog
  p0 : 0 < prog.length
  p40 : prog.length ≤ 40
  pok : ∀ r ∈ prog, r.ok prog.length
  W : WorksAt K H wl ts ks
  k6 : ks.length ≤ 6
  kok : ∀ k ∈ ks, WOk ks.length k
  M : SqL K H ml (ws.map V.int)
  w4 : 4 ≤ ws.length
  w32 : ws.length ≤ 32
  wok : ∀ x ∈ ws, rg 0 999 x
  A : AsksAt K H al qs as
  ao : AOk ks.length as
theorem Good28.same {pa wl ml al : Addr} {rs ts qs : List Addr} {prog : List Row} {ks : List Wk} {ws : List Int} {as : List (Int × Int)} (h : Good28 K H pa wl ml al rs ts qs prog ks ws as) (s : Same H H') : Good28 K H' pa wl ml al rs ts qs prog ks ws as :=
  ⟨h.pr.same s, h.p0, h.p40, h.pok, h.W.same s, h.k6, h.kok, s.seq h.M, h.w4, h.w32, h.wok, h.A.same s, h.ao⟩
theorem WorksAt.rws {wl : Addr} {ts : List Addr} {ks : List Wk} (h : WorksAt K H wl ts ks) : RwsAt K H ts (ks.map Wk.vs) := ⟨by rw [h.len, List.length_map], fun j p r e1 e2 => by
  rw [List.getElem?_map] at e2
  cases hx : ks[j]? with
  | none => rw [hx] at e2; cases e2
  | some x =>
    rw [hx] at e2
    cases e2
    exact h.at_ j p x e1 hx⟩
theorem AsksAt.rws {al : Addr} {qs : List Addr} {as : List (Int × Int)} (h : AsksAt K H al qs as) : RwsAt K H qs (as.map fun a => [V.int a.1, .int a.2]) := ⟨by rw [h.len, List.length_map], fun j p r e1 e2 => by
  rw [List.getElem?_map] at e2
  cases hx : as[j]? with
  | none => rw [hx] at e2; cases e2
  | some x =>
    rw [hx] at e2
    cases e2
    exact h.at_ j p x e1 hx⟩
structure RowsOn (K : PySem.W.Frag) (H0 H : Hp) (R : Addr) (ps : List Addr) (rows : List (List V)) : Prop where
  lst : H R = some (.lst (ps.map V.ref))
  W : RwsAt K H ps rows
  sm : Same H0 H
theorem sqT_put {R p : Addr} {r ys zs : List V} (hR : H R = some (.lst ys)) (h : SqT K H p r) : SqT K (upd H R (.lst zs)) p r := by
  rcases h with (h | ⟨o, h⟩) | h
  · exact .inl (.inl (by rw [upd_ne (ne_of h hR (by intro z; cases z))]; exact h))
  · exact .inl (.inr ⟨o, by rw [upd_ne (ne_of h hR (by intro z; cases z))]; exact h⟩)
  · exact .inr h
theorem RowsOn.keep {H0 : Hp} {R : Addr} {ps : List Addr} {rows : List (List V)} (O : RowsOn K H0 H R ps rows) (s : Same H H') : RowsOn K H0 H' R ps rows := ⟨s _ _ O.lst, O.W.same s, fun b o e => s _ _ (O.sm _ _ e)⟩
theorem RowsOn.ext {H0 : Hp} {R : Addr} {ps qs : List Addr} {rows more : List (List V)} (O : RowsOn K H0 H R ps rows) (s : Same H H') (h0 : H0 R = none) (h2 : RwsAt K H' qs more) : RowsOn K H0 (upd H' R (.lst (ps.map V.ref ++ qs.map V.ref))) R (ps ++ qs) (rows ++ more) := by
  have O2 := O.keep s
  refine ⟨by rw [upd_same, List.map_append], ?_, fun b o e => by rw [upd_ne (ne_of_none e h0)]; exact O2.sm _ _ e⟩
  have h3 := O2.W.app h2
  exact ⟨h3.len, fun j p r e1 e2 => sqT_put O2.lst (h3.at_ j p r e1 e2)⟩
def sp_written (K : PySem.W.Frag) : Sp := fun vs H Q _ => ∃ (pa wl ml al : Addr) (rs ts qs : List Addr) (prog : List Row) (ks : List Wk) (ws : List Int) (as : List (Int × Int)), vs = [.ref pa, .ref wl, .ref ml, .ref al] ∧ Good28 K H pa wl ml al rs ts qs prog ks ws as ∧
  ∀ H', Same H H' → Q (.str (textV (rowsV prog ks ws as))) H'
theorem text_ok {rows : List (List V)} (h : ∀ r ∈ rows, (∀ v ∈ r, isPt v) ∧ r.length ≤ 40) (hl : rows.length ≤ 55) : ((rows.map rowT).map (·.length)).sum + (rows.map rowT).length * ("\n" : Str).length ≤ 16777216 ∧ (textV rows).length + 2 ≤ sizeLine := by
  have h1 : ∀ z ∈ rows.map rowT, z.length ≤ 240 := fun z hz => by
    obtain ⟨r, hr, rfl⟩ := List.mem_map.mp hz
    have hp : ∀ z ∈ r.map ptT, z.length ≤ 5 := fun z hz => by
      obtain ⟨v, hv, rfl⟩ := List.mem_map.mp hz
      exact pt_len ((h r hr).1 v hv)
    exact Nat.le_trans (joinT_len (y := (" " : Str)) hp (n := 40) (by rw [List.length_map]; exact (h r hr).2)) (by decide +kernel)
  have h2 : (rows.map rowT).length ≤ 55 := by rw [List.length_map]; exact hl
  exact ⟨Nat.le_trans (join_len (y := ("\n" : Str)) h1 h2) (by decide +kernel), Nat.le_trans (Nat.add_le_add_right (joinT_len (y := ("\n" : Str)) h1 h2) 2) (by decide +kernel)⟩
theorem ok_written (T : T w K mg) : FnR P w K mg base CX0 6 (He.ga K "written") (sp_written K) := by
  have F_check_hall : FnR P w K mg base CX0 5 _ _ := ok_check_hall T
  have F_row_text : FnR P w K mg base CX0 2 _ _ := ok_row_text T
  obtain ⟨fd, F⟩ := T.f_written
  refine F.r sc_written (fun _ _ _ _ _ _ us hl => match us, hl with | [_, _, _, _], _ => rfl) (fun vs H Q E h => ?_) (fun cdv A outer s H vs Q E hr h => ?_)
  · obtain ⟨_, _, _, _, _, _, _, _, _, _, _, rfl, _⟩ := h
    rfl
  · obtain ⟨pa, wl, ml, al, rs, ts, qs, prog, ks, ws, as, rfl, G, q⟩ := h
    refine ⟨_, (pss_cons (ps_expr (pe_callR F_check_hall (hr.mono (by decide)) rfl T.g_check_hall T.k_check_hall (pa_cons (pv 0) (pa_cons (pv 1) (pa_cons (pv 2) (pa_cons (pv 3) pa_nil))))))
      (pss_cons (ps_set (i := 4) sc_written.nd rfl (Or.inl rfl) (pe_lst (pa_cons (pe_tup (pa_cons pe_str (pa_star (pv 2) pa_nil))) pa_nil)))
      (pss_cons (ps_expr (pe_bm PySem.F.plainAttrs_list PySem.F.slot_list_extend PySem.F.type_list_extend mt_extend (pv 4) (pa_cons (pe_lc (own := [("work", 5)]) (g := gName 5) (tt := tYes) (te := tTup (tCons (tC (.str "work")) (tStar K (tVar 5) tNil))) rfl sc_written.nd (pi_list (pv 1)) (blkOk_by (N := ["program", "works", "memory", "asks", "rows", "work", "ask", "row"]) (sc := defScope s_written) (by decide +kernel)) (fun _ _ _ _ _ => pg_name (i := 5) sc_written.nd rfl (Or.inl rfl)) (fun _ _ _ _ _ => pts_nil) (fun _ _ _ _ _ => pe_tup (pa_cons pe_str (pa_star (pv 5) pa_nil)))) pa_nil)))
      (pss_cons (ps_expr (pe_bm PySem.F.plainAttrs_list PySem.F.slot_list_extend PySem.F.type_list_extend mt_extT (pv 4) (pa_cons (pv 0) pa_nil)))
      (pss_cons (ps_expr (pe_bm PySem.F.plainAttrs_list PySem.F.slot_list_extend PySem.F.type_list_extend mt_extend (pv 4) (pa_cons (pe_lc (own := [("ask", 6)]) (g := gName 6) (tt := tYes) (te := tTup (tCons (tC (.str "at")) (tStar K (tVar 6) tNil))) rfl sc_written.nd (pi_list (pv 3)) (blkOk_by (N := ["program", "works", "memory", "asks", "rows", "work", "ask", "row"]) (sc := defScope s_written) (by decide +kernel)) (fun _ _ _ _ _ => pg_name (i := 6) sc_written.nd rfl (Or.inl rfl)) (fun _ _ _ _ _ => pts_nil) (fun _ _ _ _ _ => pe_tup (pa_cons pe_str (pa_star (pv 6) pa_nil)))) pa_nil)))
      (pss_one (ps_ret (pe_join pe_str (pe_lc (own := [("row", 7)]) (g := gName 7) (tt := tYes) (te := tCallR (sp_row_text K) (tCons (tVar 7) tNil)) rfl sc_written.nd (pi_list (pv 4)) (blkOk_by (N := ["program", "works", "memory", "asks", "rows", "work", "ask", "row"]) (sc := defScope s_written) (by decide +kernel)) (fun _ _ _ _ _ => pg_name (i := 7) sc_written.nd rfl (Or.inl rfl)) (fun _ _ _ _ _ => pts_nil) (fun _ _ _ _ _ => pe_callR F_row_text (hr.mono (by decide)) rfl T.g_row_text T.k_row_text (pa_cons (pv 7) pa_nil))))))))))), ?_⟩
    refine ⟨_, rfl, _, rfl, _, rfl, _, rfl, pa, wl, ml, al, rs, ts, qs, prog, ks, ws, as, rfl, G.pr, G.p0, G.p40, G.pok, G.W, G.k6, G.kok, G.M, G.w4, G.w32, G.wok, G.A, G.ao, fun H1 s1 => ?_⟩
    have G1 := G.same s1
    have wsz : ws.length ≤ 40 := Nat.le_trans G.w32 (by decide)
    refine ⟨_, rfl, ml, ws.map V.int, rfl, .inr G1.M, ?_, fun t nt => ⟨(show 1 ≤ sizeLine by decide), fun R nR => ?_⟩⟩
    · rw [List.append_nil, List.length_cons, List.length_map]
      exact Nat.le_trans (show ws.length + 1 ≤ 41 by omega) (by decide)
    have hRt : R ≠ t := fun z => by rw [z, upd_same] at nR; cases nR
    have nR1 : H1 R = none := by rw [upd_ne hRt] at nR; exact nR
    have O1 : RowsOn K H1 (upd (upd H1 t (.tup (V.str "words" :: (ws.map V.int ++ [])))) R (.lst [V.ref t])) R [t] [V.str "words" :: ws.map V.int] := by
      refine ⟨upd_same, RwsAt.one (SqT.of ?_), Same.new (Same.new (Same.refl _) nt) nR1⟩
      rw [upd_ne (Ne.symm hRt), upd_same, List.append_nil]
    show tSeq _ _ _ [some (.ref pa), some (.ref wl), some (.ref ml), some (.ref al), some (.ref R), none, none, none] (upd (upd H1 t (.tup (V.str "words" :: (ws.map V.int ++ [])))) R (.lst [V.ref t]))
    generalize upd (upd H1 t (.tup (V.str "words" :: (ws.map V.int ++ [])))) R (.lst [V.ref t]) = H2 at O1
    have G2 := G1.same O1.sm
    refine ⟨_, rfl, .inl ⟨rfl, _, SqL.of O1.lst⟩, ?_⟩
    refine star_lc (K := K) (i := 5) (n := 1) (by show 5 < 8; decide) rfl G2.W.lst G2.W.rws (by rw [List.length_map]; exact Nat.le_trans G.k6 (by decide)) (fun vs hv => by obtain ⟨k, _, rfl⟩ := List.mem_map.mp hv; show 7 ≤ 100; decide) (fun H3 L us TU s3 nL => ?_)
    have hlu : us.length = ks.length := by rw [TU.len, List.length_map, List.length_map]
    refine ⟨R, L, _, _, rfl, rfl, s3 _ _ O1.lst, TU.lst, ?_, ?_⟩
    · rw [List.length_map, List.length_map, hlu]
      exact Nat.le_trans (show 1 + ks.length ≤ 7 by have := G.k6; omega) (by decide)
    have O2 := O1.ext s3 nR1 (TU.rws (K := K))
    rw [List.map_map] at O2
    show tSeq _ _ _ [some (.ref pa), some (.ref wl), some (.ref ml), some (.ref al), some (.ref R), none, none, none] (upd H3 R (.lst (List.map V.ref [t] ++ us.map V.ref)))
    generalize upd H3 R (.lst (List.map V.ref [t] ++ us.map V.ref)) = H4 at O2
    have G4 := G1.same O2.sm
    refine ⟨_, rfl, .inl ⟨rfl, _, SqL.of O2.lst⟩, _, rfl, ?_⟩
    have hrl : rs.length = prog.length := G.pr.len
    refine ⟨R, pa, _, _, rfl, rfl, O2.lst, G4.pr.tup, ?_, ?_⟩
    · rw [List.length_map, List.length_map, hrl, List.length_append, hlu]
      exact Nat.le_trans (show 1 + ks.length + prog.length ≤ 47 by have := G.k6; have := G.p40; omega) (by decide)
    have O3 := O2.ext (Same.refl _) nR1 G4.pr.rws
    show tSeq _ _ _ [some (.ref pa), some (.ref wl), some (.ref ml), some (.ref al), some (.ref R), none, none, none] (upd H4 R (.lst (List.map V.ref ([t] ++ us) ++ rs.map V.ref)))
    generalize upd H4 R (.lst (List.map V.ref ([t] ++ us) ++ rs.map V.ref)) = H5 at O3
    have G5 := G1.same O3.sm
    refine ⟨_, rfl, .inl ⟨rfl, _, SqL.of O3.lst⟩, ?_⟩
    refine star_lc (K := K) (i := 6) (n := 3) (by show 6 < 8; decide) rfl G5.A.lst G5.A.rws (by rw [List.length_map]; exact Nat.le_trans G.ao.len (by decide)) (fun vs hv => by obtain ⟨k, _, rfl⟩ := List.mem_map.mp hv; show 2 ≤ 100; decide) (fun H6 L2 us2 TU2 s6 nL2 => ?_)
    have hlu2 : us2.length = as.length := by rw [TU2.len, List.length_map, List.length_map]
    refine ⟨R, L2, _, _, rfl, rfl, s6 _ _ O3.lst, TU2.lst, ?_, ?_⟩
    · rw [List.length_map, List.length_map, hlu2, List.length_append, List.length_append, hlu, hrl]
      exact Nat.le_trans (show 1 + ks.length + prog.length + as.length ≤ 55 by have := G.k6; have := G.p40; have := G.ao.len; omega) (by decide)
    have O4 := O3.ext s6 nR1 (TU2.rws (K := K))
    rw [List.map_map] at O4
    have O4 : RowsOn K H1 _ R _ (rowsV prog ks ws as) := O4
    generalize upd H6 R (.lst (List.map V.ref ([t] ++ us ++ rs) ++ us2.map V.ref)) = H7 at O4 ⊢
    have hpt := pt_all G.p40 G.pok G.k6 G.kok G.wok G.w32 G.ao
    have hrn := rowsV_len (ws := ws) G.p40 G.k6 G.ao.len
    have hto := text_ok (fun r hr => ⟨(hpt r hr).1, (hpt r hr).2.1⟩) hrn
    refine ⟨⟨_, rfl⟩, ?_⟩
    refine rows_lc (K := K) (i := 7) (n := 4) (by show 7 < 8; decide) rfl (SqL.of O4.lst) O4.W (Nat.le_trans hrn (by decide)) (fun σ2 H3 p r Q' hr ht h1 k => ⟨_, h1, p, r, rfl, ht, (hpt r hr).1, (hpt r hr).2.1, k⟩) (fun H8 R8 h8 s8 => ?_)
    exact ⟨"\n", R8, (rowsV prog ks ws as).map rowT, rfl, rfl, .inl (SqL.of h8), hto.1, q _ (fun b o e => s8 _ _ (O4.sm _ _ (s1 _ _ e)))⟩
end
end SB

set_option Elab.async false
set_option linter.all false
set_option maxRecDepth 100000
set_option maxHeartbeats 4000000
namespace SB
open PySem L2 StX
open TL (tl split_join join_eq)
section
variable {P : Program} {w : World} {K : PySem.W.Frag} {mg : Str → Option Value} {base : Heap} {H H' : Hp}
def kindIs (K : PySem.W.Frag) (z k : Str) : Prop := (z ∈ (["words", "work", "at"] : List Str) ∧ k = z) ∨ (z ∉ (["words", "work", "at"] : List Str) ∧ k = "row" ∧ ∃ xs, Ent K "FORMS" z xs)
theorem inV_strs {z : Str} : ∀ (ws : List Str), inV (.str z) (ws.map V.str) = decide (z ∈ ws)
  | [] => rfl
  | n :: r => by
    have ih := inV_strs (z := z) r
    unfold inV at ih ⊢
    rw [List.map_cons, List.any_cons, ih]
    have e : eqV (.str n) (.str z) = decide (z = n) := by
      show (n == z) = _
      rw [Bool.eq_iff_iff, beq_iff_eq, decide_eq_true_iff]
      exact ⟨Eq.symm, Eq.symm⟩
    rw [e, Bool.eq_iff_iff, Bool.or_eq_true, decide_eq_true_iff, decide_eq_true_iff, decide_eq_true_iff, List.mem_cons]
theorem in_strs (z : Str) (ws : List Str) : (if false = true then !inV (.str z) (ws.map V.str) else inV (.str z) (ws.map V.str)) = decide (z ∈ ws) := by
  rw [if_neg (by decide), inV_strs]
theorem notIn_strs (z : Str) (ws : List Str) : (if true = true then !inV (.str z) (ws.map V.str) else inV (.str z) (ws.map V.str)) = !decide (z ∈ ws) := by
  rw [if_pos rfl, inV_strs]
def sp_kind_of (K : PySem.W.Frag) : Sp := fun vs H Q _ => ∃ (z k : Str), vs = [.str z] ∧ kindIs K z k ∧ ∀ H', Same H H' → Q (.str k) H'
theorem ok_kind_of (T : T w K mg) : FnR P w K mg base CX0 1 (He.ga K "kind_of") (sp_kind_of K) := by
  obtain ⟨es, en, DF⟩ := T.d_FORMS
  obtain ⟨fd, F⟩ := T.f_kind_of
  refine F.r sc_kind_of (fun _ _ _ _ _ _ us hl => match us, hl with | [_], _ => rfl) (fun vs H Q E h => ?_) (fun cdv A outer s H vs Q E hr h => ?_)
  · obtain ⟨_, _, rfl, _⟩ := h
    rfl
  · obtain ⟨z, k, rfl, hk, q⟩ := h
    refine ⟨_, (pss_cons (ps_if (pt_cmpR op_in_seq (pv 0) (pe_tup (pa_cons pe_str (pa_cons pe_str (pa_cons pe_str pa_nil)))) rfl)
      (pss_one (ps_ret (pv 0)))
      pss_nil)
      (pss_one (ps_ret (pe_ifExp (pt_cmpR (op_in_kd DF) (pv 0) (pe_glob (v := .ref (He.ga K "FORMS")) rfl T.g_FORMS rfl) rfl) pe_str pe_non)))), ?_⟩
    refine ⟨_, rfl, (show 3 ≤ sizeLine by decide), fun p hp => ⟨p, [.str "words", .str "work", .str "at"], rfl, .inr (SqT.of upd_same), rfl, rfl, ?_⟩⟩
    have s1 : Same H (upd H p (.tup [.str "words", .str "work", .str "at"])) := Same.new (Same.refl _) hp
    have e := in_strs z ["words", "work", "at"]
    dsimp only [List.map] at e
    rw [e]
    rcases hk with ⟨h1, rfl⟩ | ⟨h1, rfl, xs, fp, e1, e2⟩
    · rw [decide_eq_true h1]
      exact ⟨_, rfl, iteT ⟨_, rfl, q _ s1⟩⟩
    · rw [decide_eq_false h1]
      exact ⟨_, rfl, iteF ⟨_, rfl, z, _, rfl, rfl, e1, _, rfl, iteT (q _ s1)⟩⟩
def placesIs (K : PySem.W.Frag) (k : Str) (z : Str) (n : Nat) (pl : List Str) : Prop := (k = "work" ∧ pl = (["number", "number", "number", "number", "greed", "choice", "choice"] : List Str)) ∨ (k = "words" ∧ 1 ≤ n ∧ n ≤ 1000 ∧ pl = List.replicate (n - 1) ("number" : Str)) ∨ (k = "at" ∧ pl = List.replicate 2 ("number" : Str)) ∨ (k = "row" ∧ ∃ xs, Ent K "FORMS" z xs ∧ xs.length ≤ 1000 ∧ pl = List.replicate xs.length ("number" : Str))
theorem rep_num {n : Nat} {k : Int} {t : Addr} {Q : VK} (hk : k = (n : Int)) (hn : n ≤ 1000) (nt : H t = none) (q : ∀ H' a, SqT K H' a ((List.replicate n ("number" : Str)).map V.str) → Same H H' → Q (.ref a) H') : rRepA K (.ref t) (.int k) (upd H t (.tup [.str "number"])) Q := by
  subst hk
  have s1 : Same H (upd H t (.tup [.str "number"])) := Same.new (Same.refl _) nt
  refine ⟨t, n, [.str "number"], rfl, rfl, SqT.of upd_same, by simp, by omega, by omega, by simp, fun e => ?_, fun e p np => ?_⟩
  · have : n = 1 := by omega
    subst this
    exact q _ _ (SqT.of upd_same) s1
  · refine q _ p (SqT.of ?_) (fun b o e2 => ?_)
    · rw [upd_same, List.map_replicate, Int.toNat_natCast, show (List.replicate n [V.str "number"]).flatten = List.replicate n (V.str "number") by simp]
    · have := s1 _ _ e2
      rw [upd_ne (ne_of_none this np)]
      exact this
def sp_places_of (K : PySem.W.Frag) : Sp := fun vs H Q _ => ∃ (k z : Str) (p : Addr) (r pl : List Str), vs = [.str k, .ref p] ∧ SqL K H p ((z :: r).map V.str) ∧ placesIs K k z (r.length + 1) pl ∧ ∀ H' a, SqT K H' a (pl.map V.str) → Same H H' → Q (.ref a) H'
theorem ok_places_of (T : T w K mg) : FnR P w K mg base CX0 1 (He.ga K "places_of") (sp_places_of K) := by
  obtain ⟨es, en, DF⟩ := T.d_FORMS
  obtain ⟨fd, F⟩ := T.f_places_of
  refine F.r sc_places_of (fun _ _ _ _ _ _ us hl => match us, hl with | [_, _], _ => rfl) (fun vs H Q E h => ?_) (fun cdv A outer s H vs Q E hr h => ?_)
  · obtain ⟨_, _, _, _, _, rfl, _⟩ := h
    rfl
  · obtain ⟨k, z, p, r, pl, rfl, hL, hk, q⟩ := h
    refine ⟨_, (pss_cons (ps_if (pt_cmpR op_eq (pv 0) pe_str (nomark _))
      (pss_one (ps_ret (pe_glob (v := .ref (He.ga K "WORK_PLACES")) rfl T.g_WORK_PLACES rfl)))
      pss_nil)
      (pss_cons (ps_if (pt_cmpR op_eq (pv 0) pe_str (nomark _))
      (pss_one (ps_ret (pe_op op_repA (pe_tup (pa_cons pe_str pa_nil)) (pe_op op_sub (pe_callB call_len_seq rfl T.u_len PySem.boot_len (pa_cons (pv 1) pa_nil)) pe_int))))
      pss_nil)
      (pss_cons (ps_set (i := 2) sc_places_of.nd rfl (Or.inl rfl) (pe_ifExp (pt_cmpR op_eq (pv 0) pe_str (nomark _)) pe_int (pe_callB call_len_seq rfl T.u_len PySem.boot_len (pa_cons (pe_ix ix_kdict (pe_glob (v := .ref (He.ga K "FORMS")) rfl T.g_FORMS rfl) (pe_ix ix_list (pv 1) pe_int (fun _ _ => rfl)) (fun _ _ => rfl)) pa_nil))))
      (pss_one (ps_ret (pe_op op_repA (pe_tup (pa_cons pe_str pa_nil)) (pv 2))))))), ?_⟩
    refine ⟨_, rfl, rfl, _, rfl, ?_⟩
    rw [dec_str]
    rcases hk with ⟨rfl, rfl⟩ | ⟨rfl, h1, h2, rfl⟩ | ⟨rfl, rfl⟩ | ⟨rfl, xs, ⟨fp, e1, e2⟩, hx, rfl⟩
    · exact iteT (q H _ (T.tt_WORK_PLACES _) (Same.refl _))
    · refine iteF ⟨_, rfl, rfl, _, rfl, iteT ?_⟩
      refine ⟨(show 1 ≤ sizeLine by decide), fun t nt => ?_⟩
      have s1 : Same H (upd H t (.tup [.str "number"])) := Same.new (Same.refl _) nt
      refine ⟨_, rfl, p, _, rfl, .inl (s1.seq hL), _, _, rfl, rfl, rep_num ?_ (by omega) nt q⟩
      rw [List.length_map, List.length_cons]
      omega
    · refine iteF ⟨_, rfl, rfl, _, rfl, iteF ⟨_, rfl, rfl, _, rfl, iteT ?_⟩⟩
      refine ⟨(show 1 ≤ sizeLine by decide), fun t nt => ⟨_, rfl, rep_num rfl (by decide) nt q⟩⟩
    · refine iteF ⟨_, rfl, rfl, _, rfl, iteF ⟨_, rfl, rfl, _, rfl, iteF ?_⟩⟩
      refine ⟨_, rfl, p, _, 0, .str z, rfl, rfl, hL, at0 _ _, _, z, .ref fp, rfl, rfl, ⟨es, en, _, DF.at_, DF.lit, e1, rfl⟩, fp, xs, rfl, .inr (e2 _), ?_⟩
      refine ⟨(show 1 ≤ sizeLine by decide), fun t nt => ⟨_, rfl, rep_num rfl hx nt q⟩⟩
end
end SB

set_option Elab.async false
set_option linter.all false
set_option maxRecDepth 100000
set_option maxHeartbeats 4000000
namespace SB
open PySem L2 StX
open TL (tl split_join join_eq)
section
variable {P : Program} {w : World} {K : PySem.W.Frag} {mg : Str → Option Value} {base : Heap} {H H' : Hp}
theorem signs_lc {σ : L2.St} {i : Nat} {z : Str} {f : Nat → Bool} {te : TE} {Q : VK} (hi : i < σ.length) (h0 : σ[0]? = some (some (.str z))) (hz : z.cps.size ≤ 1000)
    (hte : ∀ (σ2 : L2.St) (H3 : Hp) (c : Nat) (Q' : VK), σ2[i]? = some (some (.str ⟨#[c]⟩)) → Q' (.bl (f c)) H3 → te σ2 H3 Q')
    (q : ∀ (H' : Hp) (R : Addr), H' R = some (.lst ((z.cps.toList.map f).map V.bl)) → Same H H' → Q (.ref R) H') : tLc (iStr (tVar 0)) (gName i) tYes te [i] σ H Q := by
  refine ⟨_, h0, z, rfl, fun R nR => ?_⟩
  refine lc_it walk_str (fun k H5 => H5 R = some (.lst (((z.cps.toList.take k).map f).map V.bl)) ∧ Same H H5) ⟨upd_same, Same.new (Same.refl _) nR⟩ (fun _ _ _ _ => trivial) ?_ ?_
  · rintro k x H5 H6 hk ⟨hR, s5⟩ ⟨rfl, c, hc, rfl⟩
    refine ⟨wipe28, yes ?_⟩
    refine hte _ _ c _ (look28 hi) ⟨_, hR, ?_, ?_, ?_⟩
    · rw [List.length_map, List.length_map, List.length_take]
      exact Nat.lt_of_le_of_lt (show min k z.cps.toList.length ≤ 1000 by rw [Array.length_toList]; omega) (by decide)
    · rw [upd_same, List.take_add_one, show z.cps.toList[k]? = some c by rw [Array.getElem?_toList]; exact hc, List.map_append, List.map_append]
      rfl
    · intro b o e
      rw [upd_ne (ne_of_none e nR)]
      exact s5 _ _ e
  · rintro H5 ⟨hR, s5⟩
    rw [List.take_of_length_le (by rw [Array.length_toList]; exact Nat.le_refl _)] at hR
    exact q _ R hR s5
def isNumT (z : Str) : Bool := if 1 ≤ z.length ∧ z.length ≤ 3 ∧ z.cps.toList.all (fun c => decide (c ∈ tl "0123456789")) = true then decide (z = "0") || !decide (z.cps.toList.head? = some 48) else false
def sp_is_number_text (K : PySem.W.Frag) : Sp := fun vs H Q _ => ∃ z, vs = [.str z] ∧ z.length ≤ 1000 ∧ ∀ H', Same H H' → Q (.bl (isNumT z)) H'
theorem ok_is_number_text (T : T w K mg) : FnR P w K mg base CX0 1 (He.ga K "is_number_text") (sp_is_number_text K) := by
  obtain ⟨t1, g_FIGURES⟩ := T.i_FIGURES
  obtain ⟨t2, g_MOST_FIGURES⟩ := T.i_MOST_FIGURES
  obtain ⟨fd, F⟩ := T.f_is_number_text
  refine F.r sc_is_number_text (fun _ _ _ _ _ _ us hl => match us, hl with | [_], _ => rfl) (fun vs H Q E h => ?_) (fun cdv A outer s H vs Q E hr h => ?_)
  · obtain ⟨_, rfl, _⟩ := h
    rfl
  · obtain ⟨z, rfl, hz, q⟩ := h
    refine ⟨_, (pss_cons (ps_if (PW.pt (pw_or (pt_not (pt_chain op_le op_le pe_int (pe_callB call_len_str rfl T.u_len PySem.boot_len (pa_cons (pv 0) pa_nil)) (pe_glob (v := .int 3) rfl g_MOST_FIGURES ⟨_, rfl⟩))) (pw_or1 (pt_not (pt_val (pe_callB (cr_all rfl) rfl T.u_all (by decide +kernel) (pa_cons (pe_lc (own := [("sign", 1)]) (g := gName 1) (tt := tYes) (te := tOp (fun x y H Q => ∃ (c : Nat) (z : Str), x = .str ⟨#[c]⟩ ∧ y = .str z ∧ Q (.bl (decide (c ∈ z.cps.toList))) H) (tVar 1) (tC (.str "0123456789"))) rfl sc_is_number_text.nd (pi_str (pv 0)) (blkOk_by (N := ["text", "sign"]) (sc := defScope s_is_number_text) (by decide +kernel)) (fun _ _ _ _ _ => pg_name (i := 1) sc_is_number_text.nd rfl (Or.inl rfl)) (fun _ _ _ _ _ => pts_nil) (fun _ _ _ _ _ => pe_cmpR op_in_sign (pv 1) (pe_glob (v := .str "0123456789") rfl g_FIGURES ⟨_, rfl⟩) rfl)) pa_nil)))))))
      (pss_one (ps_ret pe_bl))
      pss_nil)
      (pss_one (ps_ret (pe_or (pe_cmpR op_eq (pv 0) pe_str (nomark _)) (pe_one (pe_cmpR op_ne (pe_ix ix_str (pv 0) pe_int (fun _ _ => rfl)) pe_str (nomark _))))))), ?_⟩
    refine ⟨_, rfl, z, rfl, Nat.le_trans hz (by decide), _, _, rfl, rfl, _, rfl, ?_⟩
    have e0 : ∀ h : ¬ (1 ≤ z.length ∧ z.length ≤ 3 ∧ z.cps.toList.all (fun c => decide (c ∈ tl "0123456789")) = true), isNumT z = false := fun h => if_neg h
    refine ite2 (fun c1 => ?_) (fun c1 => ?_)
    · refine ⟨_, _, rfl, rfl, ?_⟩
      have c1 : 1 ≤ z.length := by have := of_decide_eq_true c1; omega
      refine ⟨_, rfl, ite2 (fun c2 => ?_) (fun c2 => ?_)⟩
      · have c2 : ¬ (z.length : Int) ≤ 3 := by
          rw [Bool.not_eq_true'] at c2
          exact of_decide_eq_false c2
        have := q H (Same.refl _)
        rw [e0 (fun z => c2 (by omega))] at this
        exact this
      · have c2 : z.length ≤ 3 := by
          rw [Bool.not_eq_true', Bool.not_eq_false] at c2
          have := of_decide_eq_true c2
          omega
        dsimp only [tNot, tB, tCB, tCons]
        refine signs_lc (f := fun c => decide (c ∈ tl "0123456789")) (by show 1 < 2; decide) rfl hz (fun σ2 H3 c Q' h1 k => ⟨_, h1, c, "0123456789", rfl, rfl, k⟩) (fun H5 R hR s5 => ?_)
        refine ⟨R, _, rfl, SqL.of hR, ?_⟩
        have eA : ((z.cps.toList.map fun c => decide (c ∈ tl "0123456789")).all id) = z.cps.toList.all (fun c => decide (c ∈ tl "0123456789")) := by rw [List.all_map]; rfl
        rw [eA]
        cases c3 : z.cps.toList.all (fun c => decide (c ∈ tl "0123456789")) with
        | false =>
          refine ⟨_, rfl, iteT ?_⟩
          have := q H5 s5
          rw [e0 (fun z => by rw [c3] at z; cases z.2.2)] at this
          exact this
        | true =>
          refine ⟨_, rfl, iteF ?_⟩
          have hq := q H5 s5
          have e1 : isNumT z = (decide (z = "0") || !decide (z.cps.toList.head? = some 48)) := if_pos ⟨c1, c2, c3⟩
          rw [e1] at hq
          refine ⟨_, rfl, rfl, _, rfl, ?_⟩
          rw [dec_str]
          by_cases h0 : z = "0"
          · rw [decide_eq_true h0, Bool.true_or] at hq
            rw [decide_eq_true h0]
            exact iteT hq
          · rw [decide_eq_false h0, Bool.false_or] at hq
            rw [decide_eq_false h0]
            refine iteF ?_
            obtain ⟨c, r, hcr⟩ : ∃ c r, z.cps.toList = c :: r := by
              cases hh : z.cps.toList with
              | nil =>
                have : z.length = z.cps.toList.length := by rw [Array.length_toList]; rfl
                rw [hh, List.length_nil] at this
                omega
              | cons c r => exact ⟨c, r, rfl⟩
            refine ⟨_, rfl, z, 0, c, rfl, rfl, Nat.le_trans hz (by decide), by rw [hcr]; exact at0 _ _, rfl, ?_⟩
            rw [hcr, List.head?_cons] at hq
            have e2 : decide (V.str ⟨#[c]⟩ = V.str "0") = decide (some c = some 48) := by
              rw [dec_str, Bool.eq_iff_iff, decide_eq_true_iff, decide_eq_true_iff]
              constructor
              · intro z
                have := congrArg (fun s : Str => s.cps.toList) z
                exact congrArg List.head? this
              · intro z
                cases z
                rfl
            rw [e2]
            exact hq
    · refine ⟨_, rfl, iteT ?_⟩
      have c1 : ¬ 1 ≤ z.length := fun z => c1 (decide_eq_true (by omega))
      have := q H (Same.refl _)
      rw [e0 (fun z => c1 z.1)] at this
      exact this
end
end SB

set_option Elab.async false
set_option linter.all false
set_option maxRecDepth 100000
set_option maxHeartbeats 4000000
namespace RZ
open PySem PySem.Spec PyProof.Rows L2
open PySem.Sem (wp)
structure Steps (I : Heap → Addr → Addr → Nat → Prop) (S : Heap → Addr → Array Value → Prop) : Prop where
  keep : ∀ {h h' : Heap} {a b l : Addr} {i : Nat}, I h a l i → Heap.ExtBut b h h' → a ≠ b → I h' a l i
  stay : ∀ {h h' : Heap} {a l : Addr} {i : Nat}, I h a l i → (∀ o, h.get? a = some o → h'.get? a = some o) → I h' a l i
  hold : ∀ {h h' : Heap} {a b : Addr} {xs : Array Value}, S h a xs → Heap.ExtBut b h h' → a ≠ b → S h' a xs
  some_ : ∀ {h : Heap} {a l : Addr} {i : Nat}, I h a l i → ∃ o, h.get? a = some o ∧ ∀ v, o.data ≠ .cell v
  item : ∀ {prog : Program} {w : World} {A : Around} {E : Value → Shared → Prop} {s : Shared} {it l : Addr} {i : Nat} {xs : Array Value} {x : Value} {Q : Value → Shared → Prop}, I s.heap it l i → S s.heap l xs → xs[i]? = some x →
    (∀ h', I h' it l (i + 1) → Heap.SameBut it s.heap h' → Q x { s with heap := h' }) → wpAny (model prog w) A (Builtin.SmallTypes.nextOf (.ref it)) Q E s
  fin : ∀ {prog : Program} {w : World} {A : Around} {E : Value → Shared → Prop} {s : Shared} {it l : Addr} {i : Nat} {xs : Array Value} {Q : Value → Shared → Prop}, A.handled = none → I s.heap it l i → S s.heap l xs → xs[i]? = none →
    (∀ h' e, Heap.ExtBut it s.heap h' → (∃ o, h'.get? e = some o ∧ o.cls = .type "StopIteration") → E (.ref e) { s with heap := h' }) → wpAny (model prog w) A (Builtin.SmallTypes.nextOf (.ref it)) Q E s
theorem stepsL : Steps Heap.IsListIter Heap.IsList where
  keep h e n := h.extBut e n
  stay h e := h.at e
  hold h e n := h.extBut e n
  some_ h := by
    obtain ⟨o, e, _, d⟩ := h
    exact ⟨o, e, fun v q => by rw [d] at q; cases q⟩
  item h1 h2 h3 q := wpAny_nextOf_list_item h1 h2 h3 q
  fin h0 h1 h2 h3 q := wpAny_nextOf_list_end h0 h1 h2 h3 q
theorem stepsT : Steps Heap.IsTupleIter Heap.IsTuple where
  keep h e n := h.extBut e n
  stay h e := h.at e
  hold h e n := h.extBut e n
  some_ h := by
    obtain ⟨o, e, _, d⟩ := h
    exact ⟨o, e, fun v q => by rw [d] at q; cases q⟩
  item h1 h2 h3 q := nextOf_tuple_item h1 h2 h3 q
  fin h0 h1 h2 h3 q := nextOf_tuple_end h0 h1 h2 h3 q
section
variable {prog : Program} {w : World} {A : Around} {E : Value → Shared → Prop} {s : Shared} {I1 I2 : Heap → Addr → Addr → Nat → Prop} {S1 S2 : Heap → Addr → Array Value → Prop}
theorem zipS_item {z TI TO i1 i2 l1 l2 : Addr} {k1 k2 : Nat} {xs ys : Array Value} {x y a b : Value} {Q : Value → Shared → Prop} (G1 : Steps I1 S1) (G2 : Steps I2 S2) (D : ZipApart z TI TO i1 i2 l1 l2)
    (hz : IsZip s.heap z TI TO .none) (hTI : IsPair s.heap TI (.ref i1) (.ref i2)) (hTO : IsPair s.heap TO a b) (h1 : I1 s.heap i1 l1 k1) (h2 : I2 s.heap i2 l2 k2) (hl1 : S1 s.heap l1 xs) (hl2 : S2 s.heap l2 ys) (hx : xs[k1]? = some x) (hy : ys[k2]? = some y)
    (hQ : ∀ h', IsZip h' z TI TO (rawInt s.heap.objs.size) → IsPair h' TO x y → I1 h' i1 l1 (k1 + 1) → I2 h' i2 l2 (k2 + 1) → IsPair h' s.heap.objs.size x y → h'.objs.size = s.heap.objs.size + 1 →
      (∀ c o, c ≠ z → c ≠ TO → c ≠ i1 → c ≠ i2 → s.heap.get? c = some o → h'.get? c = some o) → Q (.ref s.heap.objs.size) { s with heap := h' }) :
    wpAny (model prog w) A (Builtin.«zip.__next__» ⟨[.ref z], []⟩) (fun fin s' => ∃ v, fin = .done (.ret v) ∧ Q v s') E s := by
  show wpAny _ _ (field (.ref z) 2 >>= _) _ _ _
  refine wpAny_bind (wpAny_field hz rfl (x := .bool false) rfl ?_)
  show wpAny _ _ (field (.ref z) 3 >>= _) _ _ _
  refine wpAny_bind (wpAny_field hz rfl (x := .ref TI) rfl ?_)
  refine wpAny_bind (wpAny_seqItems hTI rfl ?_)
  show wpAny _ _ (Builtin.SmallTypes.ownedTupleIsFree (.ref z) >>= _) _ _ _
  refine wpAny_bind ?_
  unfold Builtin.SmallTypes.ownedTupleIsFree
  refine wpAny_bind (wpAny_field hz rfl (x := .none) rfl (wpAny_pure ?_))
  simp only [if_true]
  refine wpAny_bind (wpAny_rule ?_)
  refine wpAny_bind (wpAny_field hz rfl (x := .ref TO) rfl ?_)
  refine wpAny_bind (wpAny_setField_rec hz (by simp) fun hA zA sA => ?_)
  replace zA : IsZip hA z TI TO .ellipsis := zA
  refine wpAny_bind ?_
  simp only [List.zipIdx_cons, List.zipIdx_nil, List.forIn_cons, List.forIn_nil]
  refine wpAny_bind (wpAny_bind (wpAny_onRaise ?_))
  show wpAny _ _ (Builtin.SmallTypes.nextOf (.ref i1) >>= _) _ _ _
  refine wpAny_bind (G1.item (G1.keep h1 sA.extBut D.i1z) (G1.hold hl1 sA.extBut D.l1z) hx fun hB kB sB => wpAny_pure ?_)
  have tB : IsPair hB TO a b := sB.extBut _ _ D.TOi1 (sA.extBut _ _ D.TOz hTO)
  refine wpAny_bind (wpAny_seqItems tB rfl ?_)
  refine wpAny_bind (wpAny_updateSeq_pair tB fun hC tC sC => ?_)
  replace tC : IsPair hC TO x b := tC
  refine wpAny_bind (wpAny_letGo (wpAny_pure ?_))
  refine wpAny_bind (wpAny_bind (wpAny_onRaise ?_))
  show wpAny _ _ (Builtin.SmallTypes.nextOf (.ref i2) >>= _) _ _ _
  refine wpAny_bind (G2.item (G2.keep (G2.keep (G2.keep h2 sA.extBut D.i2z) sB.extBut D.i12.symm) sC.extBut D.TOi2.symm) (G2.hold (G2.hold (G2.hold hl2 sA.extBut D.l2z) sB.extBut D.l2i1) sC.extBut D.l2TO) hy fun hD kD sD => wpAny_pure ?_)
  have tD : IsPair hD TO x b := sD.extBut _ _ D.TOi2 tC
  refine wpAny_bind (wpAny_seqItems tD rfl ?_)
  refine wpAny_bind (wpAny_updateSeq_pair tD fun hE tE sE => ?_)
  replace tE : IsPair hE TO x y := tE
  refine wpAny_bind (wpAny_letGo (wpAny_pure (wpAny_pure ?_)))
  refine wpAny_bind (wpAny_seqItems tE rfl ?_)
  refine wpAny_bind (wpAny_newTuple ?_)
  have hsz : hE.objs.size = s.heap.objs.size := by rw [sE.1, sD.1, sC.1, sB.1, sA.1]
  have zE : IsZip hE z TI TO .ellipsis := sE.extBut _ _ D.TOz.symm (sD.extBut _ _ D.i2z.symm (sC.extBut _ _ D.TOz.symm (sB.extBut _ _ D.i1z.symm zA)))
  have hk : ∀ c o, c ≠ z → c ≠ TO → c ≠ i1 → c ≠ i2 → s.heap.get? c = some o → hE.get? c = some o := fun c o c1 c2 c3 c4 e =>
    sE.extBut _ _ c2 (sD.extBut _ _ c4 (sC.extBut _ _ c2 (sB.extBut _ _ c3 (sA.extBut _ _ c1 e))))
  have jE : I1 hE i1 l1 (k1 + 1) := G1.keep (G1.keep (G1.keep kB sC.extBut D.TOi1.symm) sD.extBut D.i12) sE.extBut D.TOi1.symm
  have mE : I2 hE i2 l2 (k2 + 1) := G2.keep kD sE.extBut D.TOi2.symm
  have hzlt : z < hE.objs.size := Heap.lt_size zE
  show wpAny _ _ (Builtin.SmallTypes.ownedTupleHandOut (.ref z) (.ref hE.objs.size) >>= _) _ _ _
  refine wpAny_bind ?_
  unfold Builtin.SmallTypes.ownedTupleHandOut
  have zF : IsZip (hE.push { cls := .type "tuple", data := .seq #[x, y] }) z TI TO .ellipsis := Heap.get?_push_of_some _ zE
  refine wpAny_bind (wpAny_setField_rec zF (by simp) fun hG zG sG => ?_)
  replace zG : IsZip hG z TI TO (rawInt hE.objs.size) := zG
  refine wpAny_setField_rec zG (by simp) fun hH zH sH => ?_
  replace zH : IsZip hH z TI TO (rawInt hE.objs.size) := zH
  have up : ∀ c o, c ≠ z → hE.get? c = some o → hH.get? c = some o := fun c o c1 e => sH.extBut _ _ c1 (sG.extBut _ _ c1 (Heap.get?_push_of_some _ e))
  have tH : IsPair hH hE.objs.size x y := sH.extBut _ _ (Nat.ne_of_gt hzlt) (sG.extBut _ _ (Nat.ne_of_gt hzlt) (Heap.get?_push_size _ rfl))
  have hz8 : hH.objs.size = hE.objs.size + 1 := by rw [sH.1, sG.1, Heap.size_push]
  rw [hsz] at zH tH hz8
  refine wpAny_pure ⟨_, rfl, ?_⟩
  show Q (.ref hE.objs.size) _
  rw [hsz]
  exact hQ hH zH (up _ _ D.TOz tE) (G1.stay jE fun o e => up _ o D.i1z e) (G2.stay mE fun o e => up _ o D.i2z e) tH hz8 fun c o c1 c2 c3 c4 e => up c o c1 (hk c o c1 c2 c3 c4 e)
theorem zipS_end {z TI TO i1 i2 l1 l2 : Addr} {k1 k2 : Nat} {xs ys : Array Value} {a b : Value} {Q : Fin → Shared → Prop} (G1 : Steps I1 S1) (G2 : Steps I2 S2) (hh : A.handled = none) (D : ZipApart z TI TO i1 i2 l1 l2)
    (hz : IsZip s.heap z TI TO .none) (hTI : IsPair s.heap TI (.ref i1) (.ref i2)) (hTO : IsPair s.heap TO a b) (h1 : I1 s.heap i1 l1 k1) (h2 : I2 s.heap i2 l2 k2) (hl1 : S1 s.heap l1 xs) (hl2 : S2 s.heap l2 ys) (hend : xs[k1]? = none ∨ ys[k2]? = none)
    (hE : ∀ h' e, (∀ c o, c ≠ z → c ≠ TO → c ≠ i1 → c ≠ i2 → s.heap.get? c = some o → h'.get? c = some o) → (∃ o, h'.get? e = some o ∧ o.cls = .type "StopIteration") → E (.ref e) { s with heap := h' }) :
    wpAny (model prog w) A (Builtin.«zip.__next__» ⟨[.ref z], []⟩) Q E s := by
  show wpAny _ _ (field (.ref z) 2 >>= _) _ _ _
  refine wpAny_bind (wpAny_field hz rfl (x := .bool false) rfl ?_)
  show wpAny _ _ (field (.ref z) 3 >>= _) _ _ _
  refine wpAny_bind (wpAny_field hz rfl (x := .ref TI) rfl ?_)
  refine wpAny_bind (wpAny_seqItems hTI rfl ?_)
  show wpAny _ _ (Builtin.SmallTypes.ownedTupleIsFree (.ref z) >>= _) _ _ _
  refine wpAny_bind ?_
  unfold Builtin.SmallTypes.ownedTupleIsFree
  refine wpAny_bind (wpAny_field hz rfl (x := .none) rfl (wpAny_pure ?_))
  simp only [if_true]
  refine wpAny_bind (wpAny_rule ?_)
  refine wpAny_bind (wpAny_field hz rfl (x := .ref TO) rfl ?_)
  refine wpAny_bind (wpAny_setField_rec hz (by simp) fun hA zA sA => ?_)
  replace zA : IsZip hA z TI TO .ellipsis := zA
  refine wpAny_bind ?_
  simp only [List.zipIdx_cons, List.zipIdx_nil, List.forIn_cons, List.forIn_nil]
  refine wpAny_bind (wpAny_bind (wpAny_onRaise ?_))
  show wpAny _ _ (Builtin.SmallTypes.nextOf (.ref i1) >>= _) _ _ _
  cases hx : xs[k1]? with
  | none =>
    refine wpAny_bind (G1.fin hh (G1.keep h1 sA.extBut D.i1z) (G1.hold hl1 sA.extBut D.l1z) hx fun hB e sB he => ?_)
    obtain ⟨oe, hoe, hce⟩ := he
    have zB : IsZip hB z TI TO .ellipsis := sB _ _ D.i1z.symm zA
    have hez : e ≠ z := fun x => by subst x; rw [zB] at hoe; cases hoe; simp at hce
    refine wpAny_setField_rec zB (by simp) fun hC _ sC => hE hC e (fun c o c1 _ c3 _ x => sC.extBut _ _ c1 (sB _ _ c3 (sA.extBut _ _ c1 x))) ⟨oe, sC.extBut _ _ hez hoe, hce⟩
  | some x =>
    have hy : ys[k2]? = none := by rcases hend with h | h; rw [hx] at h; cases h; exact h
    refine wpAny_bind (G1.item (G1.keep h1 sA.extBut D.i1z) (G1.hold hl1 sA.extBut D.l1z) hx fun hB kB sB => wpAny_pure ?_)
    have tB : IsPair hB TO a b := sB.extBut _ _ D.TOi1 (sA.extBut _ _ D.TOz hTO)
    refine wpAny_bind (wpAny_seqItems tB rfl ?_)
    refine wpAny_bind (wpAny_updateSeq_pair tB fun hC tC sC => ?_)
    refine wpAny_bind (wpAny_letGo (wpAny_pure ?_))
    refine wpAny_bind (wpAny_bind (wpAny_onRaise ?_))
    show wpAny _ _ (Builtin.SmallTypes.nextOf (.ref i2) >>= _) _ _ _
    refine wpAny_bind (G2.fin hh (G2.keep (G2.keep (G2.keep h2 sA.extBut D.i2z) sB.extBut D.i12.symm) sC.extBut D.TOi2.symm) (G2.hold (G2.hold (G2.hold hl2 sA.extBut D.l2z) sB.extBut D.l2i1) sC.extBut D.l2TO) hy fun hD e sD he => ?_)
    obtain ⟨oe, hoe, hce⟩ := he
    have zD : IsZip hD z TI TO .ellipsis := sD _ _ D.i2z.symm (sC.extBut _ _ D.TOz.symm (sB.extBut _ _ D.i1z.symm zA))
    have hez : e ≠ z := fun x => by subst x; rw [zD] at hoe; cases hoe; simp at hce
    refine wpAny_setField_rec zD (by simp) fun hF _ sF => hE hF e (fun c o c1 c2 c3 c4 x => sF.extBut _ _ c1 (sD _ _ c4 (sC.extBut _ _ c2 (sB.extBut _ _ c3 (sA.extBut _ _ c1 x))))) ⟨oe, sF.extBut _ _ hez hoe, hce⟩
theorem pyNextS_item {z TI TO i1 i2 l1 l2 : Addr} {k1 k2 : Nat} {xs ys : Array Value} {x y a b : Value} {Q : Option Value → Shared → Prop} (G1 : Steps I1 S1) (G2 : Steps I2 S2) (D : ZipApart z TI TO i1 i2 l1 l2)
    (hz : IsZip s.heap z TI TO .none) (hTI : IsPair s.heap TI (.ref i1) (.ref i2)) (hTO : IsPair s.heap TO a b) (h1 : I1 s.heap i1 l1 k1) (h2 : I2 s.heap i2 l2 k2) (hl1 : S1 s.heap l1 xs) (hl2 : S2 s.heap l2 ys) (hx : xs[k1]? = some x) (hy : ys[k2]? = some y)
    (hQ : ∀ h', IsZip h' z TI TO (rawInt s.heap.objs.size) → IsPair h' TO x y → I1 h' i1 l1 (k1 + 1) → I2 h' i2 l2 (k2 + 1) → IsPair h' s.heap.objs.size x y → h'.objs.size = s.heap.objs.size + 1 →
      (∀ c o, c ≠ z → c ≠ TO → c ≠ i1 → c ≠ i2 → s.heap.get? c = some o → h'.get? c = some o) → Q (some (.ref s.heap.objs.size)) { s with heap := h' }) :
    wpAny (model prog w) A (pyNext (.ref z)) Q E s := by
  have hT : s.TypeIs (.ref z) "zip" := ⟨_, hz, rfl⟩
  unfold pyNext
  exact wpAny_bind (wpAny_attempt (wpAny_callSpecial?_slot (name := Str.ofString "__next__") hT F.slot_zip_next
    (wpAny_call_entry F.slot_zip_next hT F.entry_zip_next (zipS_item G1 G2 D hz hTI hTO h1 h2 hl1 hl2 hx hy fun h' a1 a2 a3 a4 a5 a6 a7 => wpAny_pure (hQ h' a1 a2 a3 a4 a5 a6 a7)) (F.args_zip_next_1 _))))
theorem pyNextS_end {z TI TO i1 i2 l1 l2 : Addr} {k1 k2 : Nat} {xs ys : Array Value} {a b : Value} {Q : Option Value → Shared → Prop} (G1 : Steps I1 S1) (G2 : Steps I2 S2) (hh : A.handled = none) (D : ZipApart z TI TO i1 i2 l1 l2)
    (hz : IsZip s.heap z TI TO .none) (hTI : IsPair s.heap TI (.ref i1) (.ref i2)) (hTO : IsPair s.heap TO a b) (h1 : I1 s.heap i1 l1 k1) (h2 : I2 s.heap i2 l2 k2) (hl1 : S1 s.heap l1 xs) (hl2 : S2 s.heap l2 ys) (hend : xs[k1]? = none ∨ ys[k2]? = none)
    (hQ : ∀ h', (∀ c o, c ≠ z → c ≠ TO → c ≠ i1 → c ≠ i2 → s.heap.get? c = some o → h'.get? c = some o) → Q none { s with heap := h' }) : wpAny (model prog w) A (pyNext (.ref z)) Q E s := by
  have hT : s.TypeIs (.ref z) "zip" := ⟨_, hz, rfl⟩
  unfold pyNext
  refine wpAny_bind (wpAny_attempt (wpAny_callSpecial?_slot (name := Str.ofString "__next__") hT F.slot_zip_next
    (wpAny_call_entry F.slot_zip_next hT F.entry_zip_next (zipS_end G1 G2 hh D hz hTI hTO h1 h2 hl1 hl2 hend fun h' e hk he => ?_) (F.args_zip_next_1 _))))
  obtain ⟨o, ho, hc⟩ := he
  exact wpAny_bind (wpAny_isInstance (T := "StopIteration") (b := true) ⟨o, ho, hc⟩ isSubtype_stop (wpAny_pure (hQ _ hk)))
abbrev mixA (h : Heap) (l : Addr) : Heap := h.push { cls := .type "list_iterator", data := .fields #[.ref l, .int 0 0] }
abbrev mixB (h : Heap) (l m : Addr) : Heap := (mixA h l).push { cls := .type "tuple_iterator", data := .fields #[.ref m, .int 0 0] }
abbrev mixC (h : Heap) (l m : Addr) : Heap := (mixB h l m).push { cls := .type "tuple", data := .seq #[.ref h.objs.size, .ref (mixA h l).objs.size] }
abbrev mixD (h : Heap) (l m : Addr) : Heap := (mixC h l m).push { cls := .type "tuple", data := .seq #[.none, .none] }
abbrev mixE (h : Heap) (l m : Addr) : Heap := (mixD h l m).push { cls := .type "zip", data := .fields #[.none, .bool false, .bool false, .ref (mixB h l m).objs.size, .ref (mixC h l m).objs.size] }
theorem meets_mix (l m : Addr) (xs ys : Array Value) :
    Meets (Builtin.«zip.__new__» ⟨[.type "zip", .ref l, .ref m], []⟩) (fun _ R s => s.heap.IsList l xs ∧ s.heap.IsTuple m ys ∧
      R (.ok (.ret (.ref (mixD s.heap l m).objs.size))) { s with heap := mixE s.heap l m }) :=
  .of_wp fun prog w A R s h => by
    obtain ⟨hp, g, d, tk, os⟩ := s; obtain ⟨hl1, hl2, h⟩ := h
    have hsub := sub_zip
    have hL1 : Heap.IsList (Shared.heap ⟨hp, g, d, tk, os⟩) l xs := hl1
    have hL2 : Heap.IsTuple (Shared.heap ⟨hp.push { cls := .type "list_iterator", data := .fields #[.ref l, .int 0 0] }, g, d, tk, os⟩) m ys := Heap.IsTuple.push hl2 _
    wp_walk using wpAny_pyIter_list hL1, wpAny_pyIter_tuple hL2
    exact ⟨_, rfl, h⟩
theorem call_mix {l m : Addr} {xs ys : Array Value} {Q : Value → Shared → Prop} (hl1 : s.heap.IsList l xs) (hl2 : s.heap.IsTuple m ys)
    (h : ∀ h', IsZip h' (s.heap.objs.size + 4) (s.heap.objs.size + 2) (s.heap.objs.size + 3) .none → IsPair h' (s.heap.objs.size + 2) (.ref s.heap.objs.size) (.ref (s.heap.objs.size + 1)) →
      IsPair h' (s.heap.objs.size + 3) .none .none → h'.IsListIter s.heap.objs.size l 0 → h'.IsTupleIter (s.heap.objs.size + 1) m 0 →
      (∀ c o, s.heap.get? c = some o → h'.get? c = some o) → Q (.ref (s.heap.objs.size + 4)) { s with heap := h' }) :
    wpAny (model prog w) A (call (.type "zip") [.ref l, .ref m]) Q E s := by
  refine callType_new F.called_zip (by decide) (F.typeCall_zip_2 _ _) (F.newCall_zip_2 _ _) (fun obj => F.args_object_init_3 obj _ _) F.entry_zip_new (meets_mix l m xs ys) ⟨hl1, hl2, ?_⟩
  have up : ∀ {h : Heap} {o u : Obj} {c : Addr}, h.get? c = some u → (h.push o).get? c = some u := fun e => Heap.get?_push_of_some _ e
  have z1 : (mixA s.heap l).objs.size = s.heap.objs.size + 1 := Heap.size_push ..
  have z2 : (mixB s.heap l m).objs.size = s.heap.objs.size + 2 := by rw [Heap.size_push, z1]
  have z3 : (mixC s.heap l m).objs.size = s.heap.objs.size + 3 := by rw [Heap.size_push, z2]
  have z4 : (mixD s.heap l m).objs.size = s.heap.objs.size + 4 := by rw [Heap.size_push, z3]
  have g5 : (mixE s.heap l m).get? (mixD s.heap l m).objs.size = some _ := Heap.get?_push_size _ rfl
  have g4 : (mixE s.heap l m).get? (mixC s.heap l m).objs.size = some _ := up (Heap.get?_push_size _ rfl)
  have g3 : (mixE s.heap l m).get? (mixB s.heap l m).objs.size = some _ := up (up (Heap.get?_push_size _ rfl))
  have g2 : (mixE s.heap l m).get? (mixA s.heap l).objs.size = some _ := up (up (up (Heap.get?_push_size _ rfl)))
  have g1 : (mixE s.heap l m).get? s.heap.objs.size = some _ := up (up (up (up (Heap.get?_push_size _ rfl))))
  show _ ∧ _
  rw [z2, z3, z4] at g5
  rw [z1, z2] at g3
  rw [z3] at g4
  rw [z1] at g2
  rw [z4]
  exact ⟨⟨_, g5, rfl⟩, h _ g5 g3 g4 ⟨_, g1, rfl, rfl⟩ ⟨_, g2, rfl, rfl⟩ fun c o x => up (up (up (up (up x))))⟩
end
def ItzM (K : PySem.W.Frag) (a b : Addr) : It :=
  ⟨fun i H => ∃ (xs ys : List V) (x y : V), SqL K H a xs ∧ SqT K H b ys ∧ xs[i]? = some x ∧ ys[i]? = some y,
    fun i H v H' => ∃ T x y, v = .ref T ∧ H T = none ∧ H' = upd H T (.tup [x, y]) ∧ (∀ xs, SqL K H a xs → xs[i]? = some x) ∧ ∀ ys, SqT K H b ys → ys[i]? = some y,
    fun i H => ∃ xs ys : List V, SqL K H a xs ∧ SqT K H b ys ∧ (xs.length ≤ i ∨ ys.length ≤ i)⟩
theorem turn_mix {P : Program} {w : World} {K : PySem.W.Frag} {elts : List Expr} {kk : Nat} {tpos : Pos} {a b z TI TO i1 i2 : Addr} (D : ZipApart z TI TO i1 i2 a b) :
    Turn P w K (.Tuple elts kk tpos) (ItzM K a b) [z, TI, TO, i1, i2] z (fun i h => IsZip h z TI TO .none ∧ IsPair h TI (.ref i1) (.ref i2) ∧ (∃ x y, IsPair h TO x y) ∧ h.IsListIter i1 a i ∧ h.IsTupleIter i2 b i) where
  mem := by simp
  obj := fun i h st c hc => by
    obtain ⟨hz, hTI, ⟨x, y, hTO⟩, h1, h2⟩ := st
    have e' : c = z ∨ c = TI ∨ c = TO ∨ c = i1 ∨ c = i2 := by simpa using hc
    rcases e' with q | q | q | q | q
    · rw [q]; exact ⟨_, hz, fun v q => nomatch q⟩
    · rw [q]; exact ⟨_, hTI, fun v q => nomatch q⟩
    · rw [q]; exact ⟨_, hTO, fun v q => nomatch q⟩
    · rw [q]; exact stepsL.some_ h1
    · rw [q]; exact stepsT.some_ h2
  keep := fun i h h' st k => by
    obtain ⟨hz, hTI, ⟨x, y, hTO⟩, h1, h2⟩ := st
    exact ⟨k z (by simp) _ hz, k TI (by simp) _ hTI, ⟨x, y, k TO (by simp) _ hTO⟩, stepsL.stay h1 fun o q => k i1 (by simp) o q, stepsT.stay h2 fun o q => k i2 (by simp) o q⟩
  item := by
    intro X hP hw hK hc i pins s σ H E I hf st hg
    subst hP hw hK
    obtain ⟨hz, hTI, ⟨x0, y0, hTO⟩, h1, h2⟩ := st
    obtain ⟨xs, ys, x, y, hqx, hqy, hx, hy⟩ := hg
    obtain ⟨its, rv, p, _⟩ := I.list hqx
    obtain ⟨its2, rv2, p2, _⟩ := I.tuple hqy
    obtain ⟨u, hu, ru⟩ := rv.get hx
    obtain ⟨u2, hu2, ru2⟩ := rv2.get hy
    have hzl : z < s.heap.objs.size := Heap.lt_size hz
    refine pyNextS_item stepsL stepsT D hz hTI hTO h1 h2 p.isList p2 (x := u) (y := u2) (by simpa using hu) (by simpa using hu2) fun h' z' TO' h1' h2' hT hsz hk => ?_
    refine ⟨_, rfl, wpAny_letOwnedTupleGo_zip (s := { s with heap := h' }) z' fun h'' z'' sb => ?_⟩
    have far : ∀ c, c ≠ z → c ≠ TO → c ≠ i1 → c ≠ i2 → ∀ o, s.heap.get? c = some o → h''.get? c = some o := fun c c1 c2 c3 c4 o e => (sb.2 c c1).trans (hk c o c1 c2 c3 c4 e)
    have hT2 : h''.get? s.heap.objs.size = some { cls := .type "tuple", data := .seq #[u, u2] } := (sb.2 _ (Nat.ne_of_gt hzl)).trans hT
    have new : ObjOk X.prog X.w (upd H s.heap.objs.size (.tup [x, y])) h'' s.heap.objs.size (.tup [x, y]) :=
      ⟨by show 2 ≤ sizeLine; decide, [u, u2], .cons ru (.cons ru2 .nil), ⟨_, hT2, rfl, _, rfl⟩⟩
    have I1 : Inv X pins σ (upd H s.heap.objs.size (.tup [x, y])) { s with heap := h'' } :=
      I.turnedNew (t' := s.toks) (ch := [z, TI, TO, i1, i2]) (fun c o hb q => far c (fun q' => hb (by simp [q'])) (fun q' => hb (by simp [q'])) (fun q' => hb (by simp [q'])) (fun q' => hb (by simp [q'])) o q) hf (Nat.le_refl _) new
    refine ⟨.ref s.heap.objs.size, _, I1, rfl, ⟨_, x, y, rfl, I.hok.fresh (Nat.le_refl _), rfl, fun l hl => by rw [I.list_inj hl hqx]; exact hx, fun l hl => by rw [I.tuple_inj hl hqy]; exact hy⟩, ⟨z'', far _ D.TIz D.TITO D.TIi1 D.TIi2 _ hTI, ⟨u, u2, (sb.2 _ D.TOz).trans TO'⟩, stepsL.stay h1' fun o q => (sb.2 _ D.i1z).trans q, stepsT.stay h2' fun o q => (sb.2 _ D.i2z).trans q⟩, fun c hcm => ?_⟩
    obtain ⟨oc, hoc, _⟩ : ∃ o, s.heap.get? c = some o ∧ ∀ v, o.data ≠ .cell v := by
      have e' : c = z ∨ c = TI ∨ c = TO ∨ c = i1 ∨ c = i2 := by simpa using hcm
      rcases e' with q | q | q | q | q
      · rw [q]; exact ⟨_, hz, fun v q => nomatch q⟩
      · rw [q]; exact ⟨_, hTI, fun v q => nomatch q⟩
      · rw [q]; exact ⟨_, hTO, fun v q => nomatch q⟩
      · rw [q]; exact stepsL.some_ h1
      · rw [q]; exact stepsT.some_ h2
    rw [upd_ne (Nat.ne_of_lt (Heap.lt_size hoc))]
    exact (hf c hcm).1
  done := by
    intro X hP hw hK hc i pins s σ H E I hf st hg
    subst hP hw hK
    obtain ⟨hz, hTI, ⟨x0, y0, hTO⟩, h1, h2⟩ := st
    obtain ⟨xs, ys, hqx, hqy, hend⟩ := hg
    obtain ⟨its, rv, p, _⟩ := I.list hqx
    obtain ⟨its2, rv2, p2, _⟩ := I.tuple hqy
    have l1 := rv.length
    have l2 := rv2.length
    have he : its.toArray[i]? = none ∨ its2.toArray[i]? = none := by
      rcases hend with q | q
      · exact .inl (by simp; omega)
      · exact .inr (by simp; omega)
    exact pyNextS_end stepsL stepsT (I.ok.hd hc) D hz hTI hTO h1 h2 p.isList p2 he fun h' hk => ⟨rfl, I.turnedL (t' := s.toks) (ch := [z, TI, TO, i1, i2]) (fun c o hb q =>
      hk c o (fun q' => hb (by simp [q'])) (fun q' => hb (by simp [q'])) (fun q' => hb (by simp [q'])) (fun q' => hb (by simp [q'])) q) hf⟩
  self := fun A i s Q E st h => wpAny_pyIter_zip st.1 h
def iZipM (K : PySem.W.Frag) (ta : TA) : TI := fun σ H R => ta σ H fun vs H1 => ∃ a b xs ys, vs = [.ref a, .ref b] ∧ SqL K H1 a xs ∧ SqT K H1 b ys ∧ R (ItzM K a b) H1
theorem pi_zipM {X : Cx} {e e2 : Expr} {ta : TA} {p pos tpos : Pos} {elts : List Expr} {kk : Nat} (hg : Gl X "zip") (hm : X.mg "zip" = none) (ha : PA X [e, e2] ta)
    (hs : starEach [e, e2] X.env = (false, eval e X.env) :: starEach [e2] X.env := by rfl) (hpl : (backTo pos (starEach [e2] X.env)).any (·.1) = false := by rfl) :
    PI X (.Tuple elts kk tpos) (.Call (.Name "zip" p) [e, e2] [] pos) (iZipM X.K ta) := by
  refine ⟨fun pins s σ H R I h => ?_⟩
  refine Call_ (ld_blt I hg hm PyProof.Rows.boot_zip (PyProof.Rows.callWith_type1 (thn (ha.run pos pins s σ H _ I h) fun us s1 ⟨vs, H1, I1, r1, q1⟩ => ?_) hs hpl))
  obtain ⟨a, b, xs, ys, ex, hqx, hqy, q⟩ := q1
  subst ex
  obtain ⟨u, u2, rfl, ru, ru2⟩ := r1.two
  cases ru
  cases ru2
  have fresh5 : ∀ c, c ∈ [s1.heap.objs.size + 4, s1.heap.objs.size + 2, s1.heap.objs.size + 3, s1.heap.objs.size, s1.heap.objs.size + 1] → FpOk X pins H1 c := fun c hcm => by
    have e' : c = s1.heap.objs.size + 4 ∨ c = s1.heap.objs.size + 2 ∨ c = s1.heap.objs.size + 3 ∨ c = s1.heap.objs.size ∨ c = s1.heap.objs.size + 1 := by simpa using hcm
    have hle : s1.heap.objs.size ≤ c := by rcases e' with z | z | z | z | z <;> rw [z] <;> first | exact Nat.le_add_right _ _ | exact Nat.le_refl _
    exact I1.fpOk hle (I1.hok.fresh hle)
  obtain ⟨its, rv, p1, _⟩ := I1.list hqx
  obtain ⟨its2, rv2, p2, _⟩ := I1.tuple hqy
  obtain ⟨o2, ho2, _⟩ := id p2
  refine call_mix p1.isList (show s1.heap.IsTuple b its2.toArray from p2) fun h' hz hTI hTO h1 h2 hk => wpAny_pyIter_zip hz ?_
  have I2 : Inv X pins σ H1 { s1 with heap := h' } := I1.kept (t' := s1.toks) hk
  exact ⟨s1.heap.objs.size + 4, [s1.heap.objs.size + 4, s1.heap.objs.size + 2, s1.heap.objs.size + 3, s1.heap.objs.size, s1.heap.objs.size + 1], _, _, H1, rfl, I2, turn_mix (PySem.W.ktu_apart s1.heap.objs.size a b p1.lt (Heap.lt_size ho2)), ⟨hz, hTI, ⟨_, _, hTO⟩, h1, h2⟩, fresh5, q⟩
theorem walk_mix {K : PySem.W.Frag} {a b : Addr} {xs ys : List V} (hl : xs.length = ys.length) : Walk (ItzM K a b) xs.length (fun H => SqL K H a xs ∧ SqT K H b ys) (YPair (fun i => xs[i]?) (fun i => ys[i]?)) :=
  ⟨fun i _ hi q => ⟨xs, ys, xs[i], ys[i]'(by omega), q.1, q.2, by simp [hi], by simp [show i < ys.length by omega]⟩, fun _ q => ⟨xs, ys, q.1, q.2, .inl (Nat.le_refl _)⟩,
    fun _ _ _ _ _ q ⟨T, x, y, e1, e2, e3, e4, e5⟩ => ⟨T, x, y, e1, e2, e3, e4 xs q.1, e5 ys q.2⟩⟩
end RZ

set_option Elab.async false
set_option linter.all false
set_option maxRecDepth 100000
set_option maxHeartbeats 4000000
namespace SB
open PySem L2 StX
open TL (tl split_join join_eq)
section
variable {P : Program} {w : World} {K : PySem.W.Frag} {mg : Str → Option Value} {base : Heap} {H H' : Hp}
def fitOk (z pl : Str) : Prop := (pl = "greed" ∧ z ∈ (["all", "turn", "idle"] : List Str)) ∨ (pl ≠ "greed" ∧ isNumT z = true) ∨ (pl = "choice" ∧ isNumT z = false ∧ z = "-")
def sp_fits (K : PySem.W.Frag) : Sp := fun vs H Q _ => ∃ (z pl : Str), vs = [.str z, .str pl] ∧ z.length ≤ 1000 ∧ fitOk z pl ∧ ∀ H', Same H H' → Q (.bl true) H'
theorem ok_fits (T : T w K mg) : FnR P w K mg base CX0 2 (He.ga K "fits") (sp_fits K) := by
  have F_is_number_text : FnR P w K mg base CX0 1 _ _ := ok_is_number_text T
  obtain ⟨t1, g_NOTHING⟩ := T.i_NOTHING
  obtain ⟨fd, F⟩ := T.f_fits
  refine F.r sc_fits (fun _ _ _ _ _ _ us hl => match us, hl with | [_, _], _ => rfl) (fun vs H Q E h => ?_) (fun cdv A outer s H vs Q E hr h => ?_)
  · obtain ⟨_, _, rfl, _⟩ := h
    rfl
  · obtain ⟨z, pl, rfl, hz, hf, q⟩ := h
    refine ⟨_, (pss_cons (ps_if (pt_cmpR op_eq (pv 1) pe_str (nomark _))
      (pss_one (ps_ret (pe_cmpR op_in_seq (pv 0) (pe_glob (v := .ref (He.ga K "GREEDS")) rfl T.g_GREEDS rfl) rfl)))
      pss_nil)
      (pss_one (ps_ret (pe_or (pe_callR F_is_number_text (hr.mono (by decide)) rfl T.g_is_number_text T.k_is_number_text (pa_cons (pv 0) pa_nil)) (pe_one (pe_and (pe_cmpR op_eq (pv 1) pe_str (nomark _)) (pe_one (pe_cmpR op_eq (pv 0) (pe_glob (v := .str "-") rfl g_NOTHING ⟨_, rfl⟩) (nomark _))))))))), ?_⟩
    refine ⟨_, rfl, rfl, _, rfl, ?_⟩
    rw [dec_str]
    rcases hf with ⟨rfl, h1⟩ | ⟨h0, h1⟩ | ⟨rfl, h1, rfl⟩
    · refine iteT ⟨_, rfl, _, _, rfl, .inr (T.tt_GREEDS _), rfl, rfl, ?_⟩
      have e := in_strs z ["all", "turn", "idle"]
      dsimp only [List.map] at e
      rw [e, decide_eq_true h1]
      exact q H (Same.refl _)
    · rw [decide_eq_false h0]
      refine iteF ⟨_, rfl, z, rfl, hz, fun H' s' => ?_⟩
      rw [h1]
      exact ⟨_, rfl, iteT (q _ s')⟩
    · refine iteF ⟨_, rfl, _, rfl, hz, fun H' s' => ?_⟩
      rw [h1]
      exact ⟨_, rfl, iteF ⟨_, rfl, rfl, _, rfl, iteT ⟨_, rfl, rfl, q _ s'⟩⟩⟩
def partV (z : Str) (v : V) : Prop := (z = "-" ∧ v = .non) ∨ (z ≠ "-" ∧ isNumT z = true ∧ ∃ i, intText? z = some i ∧ v = .int i) ∨ (z ≠ "-" ∧ isNumT z = false ∧ v = .str z)
def sp_part_read (K : PySem.W.Frag) : Sp := fun vs H Q _ => ∃ (z : Str) (v : V), vs = [.str z] ∧ z.length ≤ 600 ∧ partV z v ∧ ∀ H', Same H H' → Q v H'
theorem ok_part_read (T : T w K mg) : FnR P w K mg base CX0 2 (He.ga K "part_read") (sp_part_read K) := by
  have F_is_number_text : FnR P w K mg base CX0 1 _ _ := ok_is_number_text T
  obtain ⟨t1, g_NOTHING⟩ := T.i_NOTHING
  obtain ⟨fd, F⟩ := T.f_part_read
  refine F.r sc_part_read (fun _ _ _ _ _ _ us hl => match us, hl with | [_], _ => rfl) (fun vs H Q E h => ?_) (fun cdv A outer s H vs Q E hr h => ?_)
  · obtain ⟨_, _, rfl, _⟩ := h
    rfl
  · obtain ⟨z, v, rfl, hz, hv, q⟩ := h
    refine ⟨_, (pss_cons (ps_if (pt_cmpR op_eq (pv 0) (pe_glob (v := .str "-") rfl g_NOTHING ⟨_, rfl⟩) (nomark _))
      (pss_one (ps_ret pe_non))
      pss_nil)
      (pss_one (ps_ret (pe_ifExp (pt_val (pe_callR F_is_number_text (hr.mono (by decide)) rfl T.g_is_number_text T.k_is_number_text (pa_cons (pv 0) pa_nil))) (pe_callTy call_int_str rfl T.u_int (by decide +kernel) (pa_cons (pv 0) pa_nil)) (pv 0))))), ?_⟩
    refine ⟨_, rfl, rfl, _, rfl, ?_⟩
    rw [dec_str]
    rcases hv with ⟨rfl, rfl⟩ | ⟨h0, h1, i, hi, rfl⟩ | ⟨h0, h1, rfl⟩
    · exact iteT (q H (Same.refl _))
    · rw [decide_eq_false h0]
      refine iteF ⟨_, rfl, z, rfl, Nat.le_trans hz (by decide), fun H' s' => ?_⟩
      rw [h1]
      exact ⟨_, rfl, iteT ⟨_, rfl, z, i, rfl, hi, Nat.le_trans hz (by decide), q _ s'⟩⟩
    · rw [decide_eq_false h0]
      refine iteF ⟨_, rfl, z, rfl, Nat.le_trans hz (by decide), fun H' s' => ?_⟩
      rw [h1]
      exact ⟨_, rfl, iteF ⟨_, rfl, q _ s'⟩⟩
def sp_is_text_row (K : PySem.W.Frag) : Sp := fun vs H Q _ => ∃ (k z : Str) (p : Addr) (r pl : List Str), vs = [.str k, .ref p] ∧ SqL K H p ((z :: r).map V.str) ∧ placesIs K k z (r.length + 1) pl ∧ pl.length = r.length ∧ r.length ≤ 100 ∧ (∀ (i : Nat) (x y : Str), r[i]? = some x → pl[i]? = some y → fitOk x y ∧ x.length ≤ 100) ∧ ∀ H', Same H H' → Q (.bl true) H'
theorem ok_is_text_row (T : T w K mg) : FnR P w K mg base CX0 3 (He.ga K "is_text_row") (sp_is_text_row K) := by
  have F_places_of : FnR P w K mg base CX0 1 _ _ := ok_places_of T
  have F_fits : FnR P w K mg base CX0 2 _ _ := ok_fits T
  obtain ⟨fd, F⟩ := T.f_is_text_row
  refine F.r sc_is_text_row (fun _ _ _ _ _ _ us hl => match us, hl with | [_, _], _ => rfl) (fun vs H Q E h => ?_) (fun cdv A outer s H vs Q E hr h => ?_)
  · obtain ⟨_, _, _, _, _, rfl, _⟩ := h
    rfl
  · obtain ⟨k, z, p, r, pl, rfl, hL, hp, hl, h100, hf, q⟩ := h
    refine ⟨_, (pss_cons (ps_set (i := 2) sc_is_text_row.nd rfl (Or.inl rfl) (pe_callR F_places_of (hr.mono (by decide)) rfl T.g_places_of T.k_places_of (pa_cons (pv 0) (pa_cons (pv 1) pa_nil))))
      (pss_cons (ps_if (pt_cmpR op_ne (pe_callB call_len_seq rfl T.u_len PySem.boot_len (pa_cons (pv 1) pa_nil)) (pe_op op_add (pe_callB call_len_seq rfl T.u_len PySem.boot_len (pa_cons (pv 2) pa_nil)) pe_int) (nomark _))
      (pss_one (ps_ret pe_bl))
      pss_nil)
      (pss_one (ps_ret (pe_callB (cr_all rfl) rfl T.u_all (by decide +kernel) (pa_cons (pe_lc (own := [("text", 3), ("place", 4)]) (g := gTup K 2 (gCons (gName 3) (gCons (gName 4) gNil))) (tt := tYes) (te := tCallR (sp_fits K) (tCons (tVar 3) (tCons (tVar 4) tNil))) rfl sc_is_text_row.nd (RZ.pi_zipM rfl T.u_zip (pa_cons (pe_slice sl_list (pv 1) (po_some pe_int) po_none) (pa_cons (pv 2) pa_nil))) (blkOk_by (N := ["kind", "parts", "places", "text", "place"]) (sc := defScope s_is_text_row) (by decide +kernel)) (fun _ _ _ _ _ => pg_tup rfl (pgs_cons (pg_name (i := 3) sc_is_text_row.nd rfl (Or.inl rfl)) (pgs_cons (pg_name (i := 4) sc_is_text_row.nd rfl (Or.inl rfl)) pgs_nil))) (fun _ _ _ _ _ => pts_nil) (fun _ _ _ _ _ => pe_callR F_fits (hr.mono (by decide)) rfl T.g_fits T.k_fits (pa_cons (pv 3) (pa_cons (pv 4) pa_nil)))) pa_nil)))))), ?_⟩
    refine ⟨_, rfl, _, rfl, k, z, p, r, pl, rfl, hL, hp, fun H1 a ha s1 => ?_⟩
    have L1 := s1.seq hL
    refine ⟨_, rfl, p, _, rfl, .inl L1, _, rfl, a, _, rfl, .inr ha, _, _, rfl, rfl, rfl, _, rfl, ?_⟩
    rw [List.length_map, List.length_map, List.length_cons, hl, show (decide (V.int ((r.length + 1 : Nat) : Int) = V.int ((r.length : Int) + 1))) = true by rw [decide_eq_true_iff]; rfl]
    refine iteF ?_
    refine ⟨_, rfl, _, rfl, p, _, rfl, L1, fun sp nsp => ?_⟩
    have ecut : cutV ((z :: r).map V.str) (some 1) none = r.map V.str := cut1 _ _
    rw [ecut]
    have s2 : Same H1 (upd H1 sp (.lst (r.map V.str))) := Same.new (Same.refl _) nsp
    have L2 : SqL K (upd H1 sp (.lst (r.map V.str))) sp (r.map V.str) := SqL.of upd_same
    have A2 := Same.tup s2 ha
    generalize upd H1 sp (.lst (r.map V.str)) = H2 at s2 L2 A2
    refine ⟨_, rfl, sp, a, _, _, rfl, L2, A2, fun R nR => ?_⟩
    refine lc_it (RZ.walk_mix (by rw [List.length_map, List.length_map, hl])) (fun n H5 => H5 R = some (.lst ((List.replicate n true).map V.bl)) ∧ Same H2 H5) ⟨upd_same, Same.new (Same.refl _) nR⟩ (fun n H5 _ ⟨_, s5⟩ => ⟨s5.seq L2, Same.tup s5 A2⟩) ?_ ?_
    · rintro n v H5 H6 hn ⟨hR, s5⟩ ⟨t, x, y, rfl, nt, rfl, hx, hy⟩
      rw [List.length_map] at hn
      have hx : (r.map V.str)[n]? = some x := hx
      have hy : (pl.map V.str)[n]? = some y := hy
      rw [List.getElem?_map] at hx hy
      cases ex : r[n]? with
      | none => rw [ex] at hx; cases hx
      | some x1 =>
        cases ey : pl[n]? with
        | none => rw [ey] at hy; cases hy
        | some y1 =>
          rw [ex] at hx
          rw [ey] at hy
          cases hx
          cases hy
          obtain ⟨f1, f2⟩ := hf n x1 y1 ex ey
          have s6 : Same H5 (upd H5 t (.tup [.str x1, .str y1])) := Same.new (Same.refl _) nt
          refine ⟨t, _, rfl, SqT.of upd_same, rfl, _, _, rfl, _, _, rfl, rfl, ?_⟩
          refine ⟨rfl, yes ?_⟩
          refine ⟨_, rfl, _, rfl, x1, y1, rfl, Nat.le_trans f2 (by decide), f1, fun H7 s7 => ?_⟩
          refine ⟨_, s7 _ _ (s6 _ _ hR), ?_, ?_, ?_⟩
          · rw [List.length_map, List.length_replicate]
            exact Nat.lt_of_lt_of_le (show n < 101 by omega) (by decide)
          · rw [upd_same, List.replicate_succ', List.map_append]
            rfl
          · intro b o e
            rw [upd_ne (ne_of_none e nR)]
            exact s7 _ _ (s6 _ _ (s5 _ _ e))
    · rintro H5 ⟨hR, s5⟩
      refine ⟨R, _, rfl, SqL.of hR, ?_⟩
      rw [show (List.replicate (List.map V.str r).length true).all id = true by rw [List.all_eq_true]; intro x hx; rw [(List.mem_replicate.mp hx).2]; rfl]
      exact q _ (fun b o e => s5 _ _ (s2 _ _ (s1 _ _ e)))
end
end SB

set_option Elab.async false
set_option linter.all false
set_option maxRecDepth 100000
set_option maxHeartbeats 4000000
namespace SB
open PySem L2 StX
open TL (tl split_join join_eq)
section
variable {P : Program} {w : World} {K : PySem.W.Frag} {mg : Str → Option Value} {base : Heap} {H H' : Hp}
def TxtRow (K : PySem.W.Frag) (ts : List Str) (k : Str) : Prop := ∃ (z : Str) (r pl : List Str), ts = z :: r ∧ kindIs K z k ∧ placesIs K k z (r.length + 1) pl ∧ pl.length = r.length ∧ r.length ≤ 100 ∧ ∀ (i : Nat) (x y : Str), r[i]? = some x → pl[i]? = some y → fitOk x y ∧ x.length ≤ 100
def prevK (ks : List Str) : Nat → Str
  | 0 => ""
  | n + 1 => (ks[n]?).getD ""
structure TxtRows (K : PySem.W.Frag) (tss : List (List Str)) (ks : List Str) : Prop where
  len : tss.length = ks.length
  row : ∀ (j : Nat) (ts : List Str) (k : Str), tss[j]? = some ts → ks[j]? = some k → TxtRow K ts k
  fol : ∀ (j : Nat) (k : Str), ks[j]? = some k → ∃ fs : List Str, Ent K "FOLLOWERS" (prevK ks j) (fs.map V.str) ∧ k ∈ fs
  some_ : ("row" : Str) ∈ ks
  few : tss.length ≤ 100
structure TssAt (K : PySem.W.Frag) (H : Hp) (ra : Addr) (ps : List Addr) (tss : List (List Str)) : Prop where
  lst : SqL K H ra (ps.map V.ref)
  len : ps.length = tss.length
  at_ : ∀ (j : Nat) (p : Addr) (ts : List Str), ps[j]? = some p → tss[j]? = some ts → SqL K H p (ts.map V.str)
theorem TssAt.same {ra : Addr} {ps : List Addr} {tss : List (List Str)} (h : TssAt K H ra ps tss) (s : Same H H') : TssAt K H' ra ps tss := ⟨s.seq h.lst, h.len, fun j p r e1 e2 => s.seq (h.at_ j p r e1 e2)⟩
def sp_kinds_of (K : PySem.W.Frag) : Sp := fun vs H Q _ => ∃ (ra : Addr) (ps : List Addr) (tss : List (List Str)) (ks : List Str), vs = [.ref ra] ∧ TssAt K H ra ps tss ∧ TxtRows K tss ks ∧ ∀ H' R, H' R = some (.lst (ks.map V.str)) → Same H H' → Q (.ref R) H'
theorem ok_kinds_of (T : T w K mg) : FnR P w K mg base CX0 4 (He.ga K "kinds_of") (sp_kinds_of K) := by
  have F_kind_of : FnR P w K mg base CX0 1 _ _ := ok_kind_of T
  have F_is_text_row : FnR P w K mg base CX0 3 _ _ := ok_is_text_row T
  obtain ⟨es, en, DF⟩ := T.d_FOLLOWERS
  obtain ⟨fd, F⟩ := T.f_kinds_of
  refine F.r sc_kinds_of (fun _ _ _ _ _ _ us hl => match us, hl with | [_], _ => rfl) (fun vs H Q E h => ?_) (fun cdv A outer s H vs Q E hr h => ?_)
  · obtain ⟨_, _, _, _, rfl, _⟩ := h
    rfl
  · obtain ⟨ra, ps, tss, ks, rfl, A, G, q⟩ := h
    refine ⟨_, (pss_cons (ps_set (i := 1) sc_kinds_of.nd rfl (Or.inl rfl) (pe_lst pa_nil))
      (pss_cons (ps_set (i := 2) sc_kinds_of.nd rfl (Or.inl rfl) pe_str)
      (pss_cons (ps_for PassesOwn.never rfl (pi_enum rfl T.u_enumerate (pa_cons (pv 0) pa_nil)) (pg_tup rfl (pgs_cons (pg_name (i := 3) sc_kinds_of.nd rfl (Or.inl rfl)) (pgs_cons (pg_name (i := 4) sc_kinds_of.nd rfl (Or.inl rfl)) pgs_nil)))
      (pss_cons (ps_set (i := 5) sc_kinds_of.nd rfl (Or.inl rfl) (pe_callR F_kind_of (hr.mono (by decide)) rfl T.g_kind_of T.k_kind_of (pa_cons (pe_ix ix_list (pv 4) pe_int (fun _ _ => rfl)) pa_nil)))
      (pss_cons (ps_if (PW.pt (pw_or (pt_cmpR op_notIn_seq (pv 5) (pe_ix ix_kdict (pe_glob (v := .ref (He.ga K "FOLLOWERS")) rfl T.g_FOLLOWERS rfl) (pv 2) (fun _ _ => rfl)) rfl) (pw_or1 (pt_not (pt_val (pe_callR F_is_text_row (hr.mono (by decide)) rfl T.g_is_text_row T.k_is_text_row (pa_cons (pv 5) (pa_cons (pv 4) pa_nil))))))))
      (pss_one ps_never)
      pss_nil)
      (pss_cons (ps_expr (pe_bm PySem.F.plainAttrs_list PySem.F.slot_list_append PySem.F.type_list_append mt_append (pv 1) (pa_cons (pv 5) pa_nil)))
      (pss_one (ps_set (i := 2) sc_kinds_of.nd rfl (Or.inl rfl) (pv 5)))))))
      (pss_cons (ps_if (pt_cmpR op_notIn_seq pe_str (pv 1) rfl)
      (pss_one ps_never)
      pss_nil)
      (pss_one (ps_ret (pv 1))))))), ?_⟩
    refine ⟨(show 0 ≤ sizeLine by decide), fun R nR => ?_⟩
    have s1 : Same H (upd H R (.lst [])) := Same.new (Same.refl _) nR
    have A1 := A.same s1
    have r1 : upd H R (.lst []) R = some (.lst []) := upd_same
    show tSeq _ _ _ [some (.ref ra), some (.ref R), none, none, none, none] (upd H R (.lst []))
    generalize upd H R (.lst []) = H1 at s1 A1 r1
    have hkl : ps.length = ks.length := A.len.trans G.len
    refine ⟨_, rfl, ra, ps.map V.ref, rfl, A1.lst, for_it walk_enum (fun n σ H2 => ∃ v3 v4 v5, σ = [some (.ref ra), some (.ref R), some (.str (prevK ks n)), v3, v4, v5] ∧ H2 R = some (.lst ((ks.take n).map V.str)) ∧ Same H H2) ⟨none, none, none, rfl, r1, s1⟩ (fun n σ H2 _ ⟨_, _, _, _, _, s2⟩ => s2.seq A.lst) ?_ ?_⟩
    · rintro n v σ H2 H3 hn ⟨v3, v4, v5, rfl, hR, s2⟩ ⟨t, x, y, rfl, nt, rfl, hx, hy⟩
      cases hx
      rw [List.length_map] at hn
      have hy : (ps.map V.ref)[n]? = some y := hy
      rw [List.getElem?_map, List.getElem?_eq_getElem hn] at hy
      cases hy
      have e1 : ps[n]? = some ps[n] := List.getElem?_eq_getElem hn
      have hn2 : n < tss.length := by rw [← A.len]; exact hn
      have hn3 : n < ks.length := by rw [← hkl]; exact hn
      have e2 : tss[n]? = some tss[n] := List.getElem?_eq_getElem hn2
      have e3 : ks[n]? = some ks[n] := List.getElem?_eq_getElem hn3
      have L := A.at_ n _ _ e1 e2
      have R1 := G.row n _ _ e2 e3
      obtain ⟨fs, ⟨fp, e4, e5⟩, hfs⟩ := G.fol n _ e3
      have hpk : prevK ks (n + 1) = ks[n] := by show (ks[n]?).getD "" = _; rw [e3]; rfl
      have htk : (ks.take (n + 1)).map V.str = (ks.take n).map V.str ++ [.str ks[n]] := by rw [List.take_add_one, e3, List.map_append]; rfl
      generalize ps[n] = p at e1 L ⊢
      generalize tss[n] = ts at e2 L R1
      generalize ks[n] = k at e3 R1 hfs hpk htk
      obtain ⟨z, r, pl, rfl, hk, hp, hl, h100, hf⟩ := R1
      have s3 : Same H2 (upd H2 t (.tup [.int (n : Nat), .ref p])) := Same.new (Same.refl _) nt
      have ht : SqT K (upd H2 t (.tup [.int (n : Nat), .ref p])) t [.int (n : Nat), .ref p] := SqT.of upd_same
      generalize upd H2 t (.tup [.int (n : Nat), .ref p]) = H3 at s3 ht ⊢
      have sH3 : Same H H3 := s2.trans s3
      refine ⟨t, _, rfl, ht, rfl, _, _, rfl, _, _, rfl, rfl, ?_⟩
      refine ⟨_, rfl, p, _, 0, .str z, rfl, rfl, sH3.seq L, at0 _ _, z, k, rfl, hk, fun H4 s4 => ?_⟩
      refine ⟨_, rfl, _, rfl, _, prevK ks n, .ref fp, rfl, rfl, ⟨es, en, _, DF.at_, DF.lit, e4, rfl⟩, fp, fs.map V.str, rfl, .inr (e5 _), rfl, ?_, ?_⟩
      · rw [List.all_eq_true]
        intro v hv
        obtain ⟨u, _, rfl⟩ := List.mem_map.mp hv
        rfl
      rw [notIn_strs, decide_eq_true hfs]
      refine ⟨_, rfl, iteF ?_⟩
      have sH4 := sH3.trans s4
      refine ⟨_, rfl, _, rfl, k, z, p, r, pl, rfl, sH4.seq L, hp, hl, h100, hf, fun H5 s5 => ⟨_, rfl, iteF ?_⟩⟩
      have sH5 := sH4.trans s5
      refine ⟨_, rfl, .inl ⟨rfl, _, SqL.of (s5 _ _ (s4 _ _ (s3 _ _ hR)))⟩, _, rfl, R, _, _, rfl, rfl, s5 _ _ (s4 _ _ (s3 _ _ hR)), ?_, ?_⟩
      · rw [List.length_map, List.length_take]
        exact Nat.lt_of_le_of_lt (show min n ks.length ≤ 100 by have := G.few; have := G.len; omega) (by decide)
      · refine ⟨_, rfl, some (.int (n : Nat)), some (.ref p), some (.str k), by rw [hpk]; rfl, by rw [upd_same, htk], fun b o e => ?_⟩
        rw [upd_ne (ne_of_none e nR)]
        exact sH5 _ _ e
    · rintro σ H2 ⟨v3, v4, v5, rfl, hR, s2⟩
      rw [List.length_map, hkl, List.take_length] at hR
      refine ⟨_, rfl, R, _, rfl, .inl (SqL.of hR), rfl, ?_, ?_⟩
      · rw [List.all_eq_true]
        intro v hv
        obtain ⟨u, _, rfl⟩ := List.mem_map.mp hv
        rfl
      rw [notIn_strs, decide_eq_true G.some_]
      exact ⟨_, rfl, iteF ⟨_, rfl, q _ R hR s2⟩⟩
end
end SB

set_option Elab.async false
set_option linter.all false
set_option maxRecDepth 100000
set_option maxHeartbeats 4000000
namespace SB
open PySem L2 StX
open TL (tl split_join join_eq)
section
variable {P : Program} {w : World} {K : PySem.W.Frag} {mg : Str → Option Value} {base : Heap} {H H' : Hp}
theorem num_is {i : Int} (h : rg 0 999 i) : isNumT (Str.ofString (toString i)) = true ∧ Str.ofString (toString i) ≠ "-" ∧ intText? (Str.ofString (toString i)) = some i := by
  have := num_forall (p := fun z i => isNumT z && !decide (z = "-") && decide (intText? z = some i)) (by decide +kernel) h
  rw [Bool.and_eq_true, Bool.and_eq_true, Bool.not_eq_true'] at this
  exact ⟨this.1.1, of_decide_eq_false this.1.2, of_decide_eq_true this.2⟩
theorem word_is {z : Str} (h : z ∈ wordsT) : isNumT z = false ∧ z ≠ "-" := by
  have := List.all_eq_true.mp (show wordsT.all (fun z => !isNumT z && !decide (z = "-")) = true by decide +kernel) z h
  rw [Bool.and_eq_true, Bool.not_eq_true', Bool.not_eq_true'] at this
  exact ⟨this.1, of_decide_eq_false this.2⟩
theorem part_back {v : V} (h : isPt v) : partV (ptT v) v := by
  cases v with
  | int i =>
    have := num_is (show rg 0 999 i from h)
    exact .inr (.inl ⟨this.2.1, this.1, i, this.2.2, rfl⟩)
  | str z =>
    have := word_is (show z ∈ wordsT from h)
    exact .inr (.inr ⟨this.2, this.1, rfl⟩)
  | non => exact .inl ⟨rfl, rfl⟩
  | _ => exact absurd h (fun z => z)
theorem fit_num {i : Int} (h : rg 0 999 i) : fitOk (ptT (.int i)) "number" := .inr (.inl ⟨by decide +kernel, (num_is h).1⟩)
theorem fit_opt {o : Option Int} (h : ∀ i, o = some i → rg 0 999 i) : fitOk (ptT (oV o)) "choice" := by
  cases o with
  | none => exact .inr (.inr ⟨rfl, by decide +kernel, rfl⟩)
  | some i => exact .inr (.inl ⟨by decide +kernel, (num_is (h i rfl)).1⟩)
theorem len_pt {v : V} (h : isPt v) : (ptT v).length ≤ 100 := Nat.le_trans (pt_len h) (by decide)
theorem row_nums {z k : Str} {is : List Int} (hk : kindIs K z k) (hp : placesIs K k z (is.length + 1) (List.replicate is.length ("number" : Str))) (h : ∀ i ∈ is, rg 0 999 i) (hl : is.length ≤ 100) : TxtRow K (z :: is.map fun i => ptT (.int i)) k := by
  refine ⟨z, _, List.replicate is.length ("number" : Str), rfl, hk, by rw [List.length_map]; exact hp, by rw [List.length_replicate, List.length_map], by rw [List.length_map]; exact hl, fun j x y hx hy => ?_⟩
  rw [List.getElem?_map] at hx
  cases hi : is[j]? with
  | none => rw [hi] at hx; cases hx
  | some i =>
    rw [hi] at hx
    cases hx
    have hm := h i (List.mem_of_getElem? hi)
    have hy : y = "number" := by
      have := List.mem_of_getElem? hy
      exact (List.mem_replicate.mp this).2
    rw [hy]
    exact ⟨fit_num hm, len_pt (show isPt (.int i) from hm)⟩
theorem txt_words {ws : List Int} (h : ∀ i ∈ ws, rg 0 999 i) (hl : ws.length ≤ 32) : TxtRow K ((V.str "words" :: ws.map V.int).map ptT) "words" := by
  have e : (V.str "words" :: ws.map V.int).map ptT = ("words" : Str) :: ws.map fun i => ptT (.int i) := by
    rw [List.map_cons, List.map_map]
    rfl
  rw [e]
  exact row_nums (.inl ⟨by decide +kernel, rfl⟩) (.inr (.inl ⟨rfl, by omega, by omega, rfl⟩)) h (by omega)
theorem txt_at {a : Int × Int} (h1 : rg 0 999 a.1) (h2 : rg 0 999 a.2) : TxtRow K ((atV a).map ptT) "at" := by
  have := row_nums (K := K) (z := "at") (k := "at") (is := [a.1, a.2]) (.inl ⟨by decide +kernel, rfl⟩) (.inr (.inr (.inl ⟨rfl, rfl⟩))) (fun i hi => by
    rcases List.mem_cons.mp hi with e | e
    · rw [e]; exact h1
    · rw [List.mem_singleton.mp e]; exact h2) (show 2 ≤ 100 by decide)
  exact this
theorem row_parts_len (r : Row) : r.parts.length ≤ 2 := by cases r <;> simp [Row.parts]
theorem row_nm_not (r : Row) : r.nm ∉ (["words", "work", "at"] : List Str) := by cases r <;> (dsimp only [Row.nm]; decide +kernel)
theorem txt_row (T : T w K mg) {r : Row} {n : Nat} (h : r.ok n) (hn : n ≤ 40) : TxtRow K (r.vs.map ptT) "row" := by
  have e : r.vs.map ptT = r.nm :: (r.parts.map Prod.fst).map fun i => ptT (.int i) := by
    rw [Row.vs_eq, List.map_cons, List.map_map, List.map_map]
    rfl
  have hv := pt_row h hn
  rw [e]
  have hf := Row.form T r
  refine row_nums (.inr ⟨row_nm_not r, rfl, _, hf⟩) (.inr (.inr (.inr ⟨rfl, _, hf, ?_, ?_⟩))) (fun i hi => ?_) (by rw [List.length_map]; have := row_parts_len r; omega)
  · rw [List.length_map]
    have := row_parts_len r
    omega
  · rw [List.length_map, List.length_map]
  · obtain ⟨p, hp, rfl⟩ := List.mem_map.mp hi
    have : V.int p.1 ∈ r.vs := by
      rw [Row.vs_eq]
      exact List.mem_cons_of_mem _ (List.mem_map.mpr ⟨p, hp, rfl⟩)
    exact hv _ this
theorem txt_work {k : Wk} {n : Nat} (h : WOk n k) (hn : n ≤ 6) : TxtRow K ((wkV k).map ptT) "work" := by
  have hv := pt_wk h hn
  refine ⟨"work", [ptT (.int k.begin), ptT (.int k.goal), ptT (.int k.many), ptT (.int k.block), k.greed, ptT (oV k.mark), ptT (oV k.follow)], ["number", "number", "number", "number", "greed", "choice", "choice"], rfl, .inl ⟨by decide +kernel, rfl⟩, .inl ⟨rfl, rfl⟩, rfl, (show 7 ≤ 100 by decide), fun j x y hx hy => ?_⟩
  have L : ∀ v ∈ wkV k, (ptT v).length ≤ 100 := fun v h => len_pt (hv v h)
  have m : ∀ i, isPt (.int i) → rg 0 999 i := fun i h => h
  have hb := m _ (hv (.int k.begin) (by simp [wkV, Wk.vs]))
  have hg := m _ (hv (.int k.goal) (by simp [wkV, Wk.vs]))
  have hm := m _ (hv (.int k.many) (by simp [wkV, Wk.vs]))
  have hc := m _ (hv (.int k.block) (by simp [wkV, Wk.vs]))
  have l5 := L (.str k.greed) (by simp [wkV, Wk.vs])
  have l6 := L (oV k.mark) (by simp [wkV, Wk.vs])
  have l7 := L (oV k.follow) (by simp [wkV, Wk.vs])
  have f6 : fitOk (ptT (oV k.mark)) "choice" := fit_opt fun i e => by
    have := h.mar i e
    exact ⟨this.1, Int.le_trans this.2 (by decide)⟩
  have f7 : fitOk (ptT (oV k.follow)) "choice" := fit_opt fun i e => by
    have := h.fo i e
    exact ⟨this.1, by omega⟩
  have f5 : fitOk k.greed "greed" := .inl ⟨rfl, by rcases h.gr with e | e | e <;> rw [e] <;> decide +kernel⟩
  match j with
  | 0 => cases hx; cases hy; exact ⟨fit_num hb, len_pt (show isPt (.int k.begin) from hb)⟩
  | 1 => cases hx; cases hy; exact ⟨fit_num hg, len_pt (show isPt (.int k.goal) from hg)⟩
  | 2 => cases hx; cases hy; exact ⟨fit_num hm, len_pt (show isPt (.int k.many) from hm)⟩
  | 3 => cases hx; cases hy; exact ⟨fit_num hc, len_pt (show isPt (.int k.block) from hc)⟩
  | 4 => cases hx; cases hy; exact ⟨f5, l5⟩
  | 5 => cases hx; cases hy; exact ⟨f6, l6⟩
  | 6 => cases hx; cases hy; exact ⟨f7, l7⟩
  | n + 7 => cases hx
def folF : Str → List Str := fun p => if p = "" then ["words"] else if p = "words" then ["work", "row"] else if p = "work" then ["work", "row"] else if p = "row" then ["row", "at"] else ["at"]
def chainK : Str → List Str → Bool
  | _, [] => true
  | p, k :: r => decide (k ∈ folF p) && chainK k r
theorem chain_at : ∀ n, chainK "at" (List.replicate n ("at" : Str)) = true
  | 0 => rfl
  | n + 1 => by
    rw [List.replicate_succ]
    show (decide (("at" : Str) ∈ folF "at") && chainK "at" (List.replicate n ("at" : Str))) = true
    rw [chain_at n, show decide (("at" : Str) ∈ folF "at") = true by decide +kernel]
    rfl
theorem chain_row (m : Nat) : ∀ n, chainK "row" (List.replicate n ("row" : Str) ++ List.replicate m ("at" : Str)) = true
  | 0 => by
    cases m with
    | zero => rfl
    | succ m =>
      show (decide (("at" : Str) ∈ folF "row") && chainK "at" (List.replicate m ("at" : Str))) = true
      rw [chain_at m, show decide (("at" : Str) ∈ folF "row") = true by decide +kernel]
      rfl
  | n + 1 => by
    rw [List.replicate_succ]
    show (decide (("row" : Str) ∈ folF "row") && chainK "row" (List.replicate n ("row" : Str) ++ List.replicate m ("at" : Str))) = true
    rw [chain_row m n, show decide (("row" : Str) ∈ folF "row") = true by decide +kernel]
    rfl
theorem chain_work {p : Str} (hp : p = "words" ∨ p = "work") (m n : Nat) : ∀ l, chainK p (List.replicate l ("work" : Str) ++ (List.replicate (n + 1) ("row" : Str) ++ List.replicate m ("at" : Str))) = true
  | 0 => by
    show (decide (("row" : Str) ∈ folF p) && chainK "row" (List.replicate n ("row" : Str) ++ List.replicate m ("at" : Str))) = true
    rw [chain_row m n]
    rcases hp with rfl | rfl <;> decide +kernel
  | l + 1 => by
    rw [List.replicate_succ]
    show (decide (("work" : Str) ∈ folF p) && chainK "work" (List.replicate l ("work" : Str) ++ (List.replicate (n + 1) ("row" : Str) ++ List.replicate m ("at" : Str)))) = true
    rw [chain_work (.inr rfl) m n l]
    rcases hp with rfl | rfl <;> decide +kernel
end
end SB

set_option Elab.async false
set_option linter.all false
set_option maxRecDepth 100000
set_option maxHeartbeats 4000000
namespace SB
open PySem L2 StX
open TL (tl split_join join_eq)
section
variable {P : Program} {w : World} {K : PySem.W.Frag} {mg : Str → Option Value} {base : Heap} {H H' : Hp}
def Rel2 {α β : Type} (p : α → β → Prop) (xs : List α) (ys : List β) : Prop := xs.length = ys.length ∧ ∀ (j : Nat) (x : α) (y : β), xs[j]? = some x → ys[j]? = some y → p x y
theorem Rel2.app {α β : Type} {p : α → β → Prop} {xs xs2 : List α} {ys ys2 : List β} (h : Rel2 p xs ys) (h2 : Rel2 p xs2 ys2) : Rel2 p (xs ++ xs2) (ys ++ ys2) := by
  refine ⟨by rw [List.length_append, List.length_append, h.1, h2.1], fun j x y e1 e2 => ?_⟩
  by_cases hj : j < xs.length
  · rw [List.getElem?_append_left hj] at e1
    rw [List.getElem?_append_left (by rw [← h.1]; exact hj)] at e2
    exact h.2 j x y e1 e2
  · rw [List.getElem?_append_right (by omega)] at e1
    rw [List.getElem?_append_right (by rw [← h.1]; omega), ← h.1] at e2
    exact h2.2 _ x y e1 e2
theorem Rel2.rep {α β γ : Type} {p : α → β → Prop} {f : γ → α} {l : List γ} {k : β} (h : ∀ x ∈ l, p (f x) k) : Rel2 p (l.map f) (List.replicate l.length k) := by
  refine ⟨by rw [List.length_map, List.length_replicate], fun j x y e1 e2 => ?_⟩
  rw [List.getElem?_map] at e1
  cases hx : l[j]? with
  | none => rw [hx] at e1; cases e1
  | some z =>
    rw [hx] at e1
    cases e1
    rw [(List.mem_replicate.mp (List.mem_of_getElem? e2)).2]
    exact h z (List.mem_of_getElem? hx)
def kindsV (ks : List Wk) (prog : List Row) (as : List (Int × Int)) : List Str := (["words"] : List Str) ++ List.replicate ks.length ("work" : Str) ++ List.replicate prog.length ("row" : Str) ++ List.replicate as.length ("at" : Str)
def tssV (prog : List Row) (ks : List Wk) (ws : List Int) (as : List (Int × Int)) : List (List Str) := (rowsV prog ks ws as).map (·.map ptT)
theorem chain_fol : ∀ {ks : List Str} {p : Str}, chainK p ks = true → ∀ (j : Nat) (k : Str), ks[j]? = some k → k ∈ folF (match j with | 0 => p | n + 1 => (ks[n]?).getD "")
  | [], _, _, j, k, e => by simp at e
  | x :: r, p, h, 0, k, e => by
    cases e
    have h : (decide (x ∈ folF p) && chainK x r) = true := h
    rw [Bool.and_eq_true] at h
    exact of_decide_eq_true h.1
  | x :: r, p, h, n + 1, k, e => by
    have h : (decide (x ∈ folF p) && chainK x r) = true := h
    rw [Bool.and_eq_true] at h
    have e : r[n]? = some k := e
    have := chain_fol h.2 n k e
    cases n with
    | zero => exact this
    | succ m => exact this
theorem folF_in {p k : Str} (h : k ∈ folF p) : k ∈ (["words", "work", "row", "at"] : List Str) := by
  unfold folF at h
  split at h
  · rw [List.mem_singleton.mp h]; decide +kernel
  split at h
  · rcases List.mem_cons.mp h with e | e
    · rw [e]; decide +kernel
    · rw [List.mem_singleton.mp e]; decide +kernel
  split at h
  · rcases List.mem_cons.mp h with e | e
    · rw [e]; decide +kernel
    · rw [List.mem_singleton.mp e]; decide +kernel
  split at h
  · rcases List.mem_cons.mp h with e | e
    · rw [e]; decide +kernel
    · rw [List.mem_singleton.mp e]; decide +kernel
  · rw [List.mem_singleton.mp h]; decide +kernel
theorem ent_fol (T : T w K mg) {p : Str} (h : p ∈ (["", "words", "work", "row", "at"] : List Str)) : Ent K "FOLLOWERS" p ((folF p).map V.str) := by
  have e0 : folF "" = (["words"] : List Str) := by decide +kernel
  have e1 : folF "words" = (["work", "row"] : List Str) := by decide +kernel
  have e2 : folF "work" = (["work", "row"] : List Str) := by decide +kernel
  have e3 : folF "row" = (["row", "at"] : List Str) := by decide +kernel
  have e4 : folF "at" = (["at"] : List Str) := by decide +kernel
  simp only [List.mem_cons, List.not_mem_nil, or_false] at h
  rcases h with rfl | rfl | rfl | rfl | rfl
  · rw [e0]; exact T.e_FOLLOWERS_
  · rw [e1]; exact T.e_FOLLOWERS_words
  · rw [e2]; exact T.e_FOLLOWERS_work
  · rw [e3]; exact T.e_FOLLOWERS_row
  · rw [e4]; exact T.e_FOLLOWERS_at
theorem kinds_chain {ks : List Wk} {prog : List Row} {as : List (Int × Int)} (p0 : 0 < prog.length) : chainK "" (kindsV ks prog as) = true := by
  obtain ⟨n, hn⟩ : ∃ n, prog.length = n + 1 := ⟨prog.length - 1, by omega⟩
  unfold kindsV
  rw [hn, List.append_assoc, List.append_assoc]
  show (decide (("words" : Str) ∈ folF "") && chainK "words" (List.replicate ks.length ("work" : Str) ++ (List.replicate (n + 1) ("row" : Str) ++ List.replicate as.length ("at" : Str)))) = true
  rw [chain_work (.inl rfl)]
  decide +kernel
theorem txt_rows (T : T w K mg) {prog : List Row} {ks : List Wk} {ws : List Int} {as : List (Int × Int)} (p0 : 0 < prog.length) (p40 : prog.length ≤ 40) (pok : ∀ r ∈ prog, r.ok prog.length) (k6 : ks.length ≤ 6) (kok : ∀ k ∈ ks, WOk ks.length k) (wok : ∀ x ∈ ws, rg 0 999 x) (w32 : ws.length ≤ 32) (ao : AOk ks.length as) : TxtRows K (tssV prog ks ws as) (kindsV ks prog as) := by
  have hr : Rel2 (TxtRow K) (tssV prog ks ws as) (kindsV ks prog as) := by
    unfold tssV rowsV kindsV
    rw [List.map_append, List.map_append, List.map_append, List.map_map, List.map_map, List.map_map]
    refine Rel2.app (Rel2.app (Rel2.app ⟨rfl, fun j x y e1 e2 => ?_⟩ (Rel2.rep (f := (List.map ptT) ∘ wkV) fun k hk => txt_work (kok k hk) k6)) (Rel2.rep (f := (List.map ptT) ∘ Row.vs) fun r hr => txt_row T (pok r hr) p40)) (Rel2.rep (f := (List.map ptT) ∘ atV) fun a ha => ?_)
    · match j with
      | 0 => cases e1; cases e2; exact txt_words wok w32
      | n + 1 => cases e2
    · obtain ⟨h1, h2, h3⟩ := ao.each a ha
      exact txt_at ⟨h1.1, Int.le_trans h1.2 (by decide)⟩ ⟨h2, by omega⟩
  have hc := kinds_chain (ks := ks) (as := as) p0
  refine ⟨hr.1, fun j ts k e1 e2 => hr.2 j ts k e1 e2, fun j k e => ?_, ?_, ?_⟩
  · have hf := chain_fol hc j k e
    refine ⟨folF (prevK (kindsV ks prog as) j), ent_fol T ?_, ?_⟩
    · cases j with
      | zero => exact List.mem_cons_self
      | succ n =>
        have hn : n < (kindsV ks prog as).length := by
          have := (List.getElem?_eq_some_iff.mp e).1
          omega
        have e3 := List.getElem?_eq_getElem hn
        have := folF_in (chain_fol hc n _ e3)
        show (((kindsV ks prog as)[n]?).getD "") ∈ _
        rw [e3]
        exact List.mem_cons_of_mem _ this
    · cases j <;> exact hf
  · unfold kindsV
    refine List.mem_append_left _ (List.mem_append_right _ (List.mem_replicate.mpr ⟨by omega, rfl⟩))
  · have := rowsV_len (ws := ws) p40 k6 ao.len
    unfold tssV
    rw [List.length_map]
    omega
end
end SB

set_option Elab.async false
set_option linter.all false
set_option maxRecDepth 100000
set_option maxHeartbeats 4000000
namespace SB
open PySem L2 StX
open TL (tl split_join join_eq joinL tl_join)
section
variable {P : Program} {w : World} {K : PySem.W.Frag} {mg : Str → Option Value} {base : Heap} {H H' : Hp}
theorem not_joinL {s : Nat} {S : List Nat} (hS : s ∉ S) : ∀ {ps : List (List Nat)}, (∀ p ∈ ps, s ∉ p) → s ∉ joinL S ps
  | [], _ => by simp [joinL]
  | [p], h => h p List.mem_cons_self
  | p :: q :: r, h => by
    show s ∉ p ++ (S ++ joinL S (q :: r))
    rw [List.mem_append, List.mem_append]
    rintro (z | z | z)
    · exact h p List.mem_cons_self z
    · exact hS z
    · exact not_joinL hS (fun x hx => h x (List.mem_cons_of_mem _ hx)) z
theorem row_free {r : List V} (h : ∀ v ∈ r, isPt v) : 10 ∉ tl (rowT r) := by
  unfold rowT
  rw [join_eq, tl_join]
  refine not_joinL (by decide +kernel) fun p hp => ?_
  obtain ⟨z, hz, rfl⟩ := List.mem_map.mp hp
  obtain ⟨v, hv, rfl⟩ := List.mem_map.mp hz
  exact (pt_free (h v hv)).2
theorem split_rows {rows : List (List V)} (h : ∀ r ∈ rows, ∀ v ∈ r, isPt v) (ne : rows ≠ []) : Txt.split (textV rows) "\n" = rows.map rowT := by
  refine split_join (s := 10) (S := []) (by decide +kernel) (by decide +kernel) (fun e => ne (List.map_eq_nil_iff.mp e)) fun p hp => ?_
  obtain ⟨r, hr, rfl⟩ := List.mem_map.mp hp
  exact row_free (h r hr)
theorem split_row {r : List V} (h : ∀ v ∈ r, isPt v) (ne : r ≠ []) : Txt.split (rowT r) " " = r.map ptT := by
  refine split_join (s := 32) (S := []) (by decide +kernel) (by decide +kernel) (fun e => ne (List.map_eq_nil_iff.mp e)) fun p hp => ?_
  obtain ⟨v, hv, rfl⟩ := List.mem_map.mp hp
  exact (pt_free (h v hv)).1
theorem row_len {r : List V} (h : ∀ v ∈ r, isPt v) (hl : r.length ≤ 40) : (rowT r).length + 2 ≤ sizeLine := by
  have hp : ∀ z ∈ r.map ptT, z.length ≤ 5 := fun z hz => by
    obtain ⟨v, hv, rfl⟩ := List.mem_map.mp hz
    exact pt_len (h v hv)
  exact Nat.le_trans (Nat.add_le_add_right (joinT_len (y := (" " : Str)) hp (n := 40) (by rw [List.length_map]; exact hl)) 2) (by decide +kernel)
def rSpl : V → List V → Hp → VK → Prop := fun x xs H Q => ∃ a b, x = .str a ∧ xs = [.str b] ∧ (b.length == 0) = false ∧ a.length + 2 ≤ sizeLine ∧ rNewStrs (Txt.split a b) H Q
theorem split_lc {σ : L2.St} {i : Nat} {rows : List (List V)} {Q : VK} (hi : i < σ.length) (h0 : σ[0]? = some (some (.str (textV rows)))) (h : ∀ r ∈ rows, (∀ v ∈ r, isPt v) ∧ r.length ≤ 40 ∧ r ≠ []) (ne : rows ≠ []) (hl : rows.length ≤ 55)
    (q : ∀ (H' : Hp) (R : Addr) (us : List Addr), TssAt K H' R us (rows.map (·.map ptT)) → Same H H' → Q (.ref R) H') :
    tLc (iList K (tM1 rSpl (tVar 0) (tC (.str "\n")))) (gName i) tYes (tM1 rSpl (tVar i) (tC (.str " "))) [i] σ H Q := by
  refine ⟨_, h0, ⟨_, rfl⟩, textV rows, "\n", rfl, rfl, by decide +kernel, (text_ok (fun r hr => ⟨(h r hr).1, (h r hr).2.1⟩) hl).2, fun p np => ?_⟩
  rw [split_rows (fun r hr => (h r hr).1) ne]
  have s1 : Same H (upd H p (.lst ((rows.map rowT).map V.str))) := Same.new (Same.refl _) np
  have L1 : SqL K (upd H p (.lst ((rows.map rowT).map V.str))) p ((rows.map rowT).map V.str) := SqL.of upd_same
  generalize upd H p (.lst ((rows.map rowT).map V.str)) = H1 at s1 L1
  refine ⟨p, rfl, ⟨_, L1⟩, fun R nR => ?_⟩
  refine lc_list (K := K) (a := p) (xs := (rows.map rowT).map V.str) (fun k H5 => ∃ us : List Addr, H5 R = some (.lst (us.map V.ref)) ∧ us.length = min k rows.length ∧ (∀ (j : Nat) (t : Addr) (r : List V), us[j]? = some t → rows[j]? = some r → t ≠ R ∧ H5 t = some (.lst ((r.map ptT).map V.str))) ∧ Same H1 H5)
    ⟨[], upd_same, by simp, fun j t r e => by simp at e, Same.new (Same.refl _) nR⟩ (fun k H5 _ ⟨_, _, _, _, s5⟩ => s5.seq L1) ?_ ?_
  · rintro k x H5 hx ⟨us, hR, hlu, hu, s5⟩
    rw [List.getElem?_map, List.getElem?_map] at hx
    cases hr : rows[k]? with
    | none => rw [hr] at hx; cases hx
    | some r =>
      rw [hr] at hx
      cases hx
      have hk : k < rows.length := (List.getElem?_eq_some_iff.mp hr).1
      obtain ⟨hv, hl40, hne⟩ := h r (List.mem_of_getElem? hr)
      refine ⟨wipe28, yes ?_⟩
      refine ⟨_, look28 hi, ⟨_, rfl⟩, rowT r, " ", rfl, rfl, by decide +kernel, row_len hv hl40, fun t nt => ?_⟩
      rw [split_row hv hne]
      have s6 : Same H5 (upd H5 t (.lst ((r.map ptT).map V.str))) := Same.new (Same.refl _) nt
      have htR : t ≠ R := fun e => by rw [e, hR] at nt; cases nt
      have h6 : upd H5 t (.lst ((r.map ptT).map V.str)) t = some (.lst ((r.map ptT).map V.str)) := upd_same
      generalize upd H5 t (.lst ((r.map ptT).map V.str)) = H6 at s6 h6
      have hlk : us.length = k := by rw [hlu]; omega
      refine ⟨_, s6 _ _ hR, ?_, us ++ [t], ?_, ?_, fun j u r2 e1 e2 => ?_, ?_⟩
      · rw [List.length_map, hlk]
        exact Nat.lt_of_lt_of_le (show k < 56 by omega) (by decide)
      · rw [upd_same, List.map_append]
        rfl
      · rw [List.length_append, hlk]
        show k + 1 = _
        omega
      · by_cases hj : j < us.length
        · rw [List.getElem?_append_left hj] at e1
          obtain ⟨n1, n2⟩ := hu j u r2 e1 e2
          exact ⟨n1, by rw [upd_ne n1]; exact s6 _ _ n2⟩
        · have hjk : j = k := by
            have := (List.getElem?_eq_some_iff.mp e1).1
            rw [List.length_append] at this
            simp at this
            omega
          subst hjk
          rw [List.getElem?_append_right (by omega), hlk, Nat.sub_self] at e1
          have e1 : t = u := by simpa using e1
          subst e1
          rw [hr] at e2
          cases e2
          exact ⟨htR, by rw [upd_ne htR]; exact h6⟩
      · intro b o e
        rw [upd_ne (ne_of_none e nR)]
        exact s6 _ _ (s5 _ _ e)
  · rintro H5 ⟨us, hR, hlu, hu, s5⟩
    rw [List.length_map, List.length_map, Nat.min_self] at hlu
    refine q _ R us ⟨SqL.of hR, by rw [hlu, List.length_map], fun j t ts e1 e2 => ?_⟩ (s1.trans s5)
    rw [List.getElem?_map] at e2
    cases hr : rows[j]? with
    | none => rw [hr] at e2; cases e2
    | some r =>
      rw [hr] at e2
      cases e2
      exact SqL.of (hu j t r e1 hr).2
end
end SB

set_option Elab.async false
set_option linter.all false
set_option maxRecDepth 100000
set_option maxHeartbeats 4000000
namespace SB
open PySem L2 StX
open TL (tl split_join join_eq joinL tl_join)
section
variable {P : Program} {w : World} {K : PySem.W.Frag} {mg : Str → Option Value} {base : Heap} {H H' : Hp}
theorem map_lc {σ : L2.St} {i : Nat} {a : Addr} {xs ys : List V} {ti : TI} {te : TE} {Q : VK} (hi : i < σ.length) (hti : ∀ R, R (Itl K a) H → ti σ H R) (L : SqL K H a xs) (he : xs.length = ys.length) (hl : xs.length ≤ 1000)
    (hte : ∀ (σ2 : L2.St) (H3 : Hp) (k : Nat) (x y : V) (Q' : VK), xs[k]? = some x → ys[k]? = some y → σ2[i]? = some (some x) → (∀ H4, Same H3 H4 → Q' y H4) → te σ2 H3 Q')
    (q : ∀ (H' : Hp) (R : Addr), H' R = some (.lst ys) → H R = none → Same H H' → Q (.ref R) H') : tLc ti (gName i) tYes te [i] σ H Q := by
  refine hti _ fun R nR => ?_
  refine lc_list (K := K) (a := a) (xs := xs) (fun k H5 => H5 R = some (.lst (ys.take k)) ∧ Same H H5) ⟨upd_same, Same.new (Same.refl _) nR⟩ (fun k H5 _ ⟨_, s5⟩ => s5.seq L) ?_ ?_
  · rintro k x H5 hx ⟨hR, s5⟩
    have hk : k < ys.length := by rw [← he]; exact (List.getElem?_eq_some_iff.mp hx).1
    have hy := List.getElem?_eq_getElem hk
    refine ⟨wipe28, yes ?_⟩
    refine hte _ _ k x _ _ hx hy (look28 hi) fun H6 s6 => ?_
    refine ⟨_, s6 _ _ hR, ?_, ?_, ?_⟩
    · rw [List.length_take]
      exact Nat.lt_of_le_of_lt (show min k ys.length ≤ 1000 by omega) (by decide)
    · rw [upd_same, List.take_add_one, hy]
      rfl
    · intro b o e
      rw [upd_ne (ne_of_none e nR)]
      exact s6 _ _ (s5 _ _ e)
  · rintro H5 ⟨hR, s5⟩
    rw [he, List.take_length] at hR
    exact q _ R hR nR s5
theorem cut_lc {σ : L2.St} {i : Nat} {a : Addr} {ps : List Addr} {rows : List (List V)} {ti : TI} {te : TE} {Q : VK} {z : V} (hi : i < σ.length) (hti : ∀ R, R (Itl K a) H → ti σ H R) (L : SqL K H a (ps.map V.ref)) (W : RwsAt K H ps (rows.map fun r => z :: r)) (hl : rows.length ≤ 1000)
    (hte : ∀ (σ2 : L2.St) (H3 : Hp) (p : Addr) (r : List V) (Q' : VK), r ∈ rows → σ2[i]? = some (some (.ref p)) → SqT K H3 p (z :: r) → (∀ t, H3 t = none → Q' (.ref t) (upd H3 t (.tup r))) → te σ2 H3 Q')
    (q : ∀ (H' : Hp) (R : Addr) (us : List Addr), TupsAt H' R us rows → H R = none → Same H H' → Q (.ref R) H') : tLc ti (gName i) tYes te [i] σ H Q := by
  refine hti _ fun R nR => ?_
  have hlp : ps.length = rows.length := by rw [W.len, List.length_map]
  refine lc_list (K := K) (a := a) (xs := ps.map V.ref) (fun k H5 => ∃ us, TupsAt H5 R us (rows.take k) ∧ Same H H5) ⟨[], ⟨upd_same, rfl, fun j p vs e => by simp at e⟩, Same.new (Same.refl _) nR⟩ (fun k H5 _ ⟨_, _, s5⟩ => s5.seq L) ?_ ?_
  · rintro k x H5 hx ⟨us, T5, s5⟩
    rw [List.getElem?_map] at hx
    cases hp : ps[k]? with
    | none => rw [hp] at hx; cases hx
    | some p =>
      rw [hp] at hx
      cases hx
      have hk : k < rows.length := by rw [← hlp]; exact (List.getElem?_eq_some_iff.mp hp).1
      have hr := List.getElem?_eq_getElem hk
      have ht := Same.tup s5 (W.at_ k p _ hp (by rw [List.getElem?_map, hr]; rfl))
      have hm := List.mem_of_getElem? hr
      generalize rows[k] = r at hr ht hm
      refine ⟨wipe28, yes ?_⟩
      refine hte _ _ p r _ hm (look28 hi) ht fun t nt => ?_
      have s6 : Same H5 (upd H5 t (.tup r)) := Same.new (Same.refl _) nt
      have h6 : upd H5 t (.tup r) t = some (.tup r) := upd_same
      generalize upd H5 t (.tup r) = H6 at s6 h6
      have T6 := T5.keep s6
      refine ⟨_, T6.lst, ?_, us ++ [t], ?_, ?_⟩
      · rw [List.length_map, T6.len, List.length_take]
        exact Nat.lt_of_le_of_lt (show min k rows.length ≤ 1000 by omega) (by decide)
      · have := T6.push h6
        rw [List.map_append (l₁ := us)] at this
        rw [List.take_add_one, hr]
        exact this
      · intro b o e
        rw [upd_ne (ne_of_none e nR)]
        exact s6 _ _ (s5 _ _ e)
  · rintro H5 ⟨us, T5, s5⟩
    rw [List.length_map, hlp, List.take_length] at T5
    exact q _ R us T5 nR s5
def ofKind (k : Str) (rows : List (List V)) (ks : List Str) : List (List V) := (rows.zip ks).filterMap fun p => if p.2 = k then some p.1 else none
theorem ofKind_app {k : Str} {a b : List (List V)} {c d : List Str} (h : a.length = c.length) : ofKind k (a ++ b) (c ++ d) = ofKind k a c ++ ofKind k b d := by
  unfold ofKind
  rw [List.zip_append h, List.filterMap_append]
theorem ofKind_rep {k k' : Str} : ∀ rows : List (List V), ofKind k rows (List.replicate rows.length k') = if k' = k then rows else []
  | [] => by cases (inferInstance : Decidable (k' = k)) <;> simp [ofKind]
  | r :: rows => by
    have ih := ofKind_rep (k := k) (k' := k') rows
    unfold ofKind at ih ⊢
    rw [List.length_cons, List.replicate_succ, List.zip_cons_cons]
    by_cases h : k' = k
    · rw [if_pos h] at ih ⊢
      rw [List.filterMap_cons_some (b := r) (by simp [h]), ih]
    · rw [if_neg h] at ih ⊢
      rw [List.filterMap_cons_none (by simp [h]), ih]
theorem ofKind_snoc {k x : Str} {r : List V} {rows : List (List V)} {ks : List Str} {n : Nat} (h1 : rows[n]? = some r) (h2 : ks[n]? = some x) : ofKind k (rows.take (n + 1)) (ks.take (n + 1)) = ofKind k (rows.take n) (ks.take n) ++ (if x = k then [r] else []) := by
  have l1 := (List.getElem?_eq_some_iff.mp h1).1
  have l2 := (List.getElem?_eq_some_iff.mp h2).1
  rw [List.take_add_one, List.take_add_one, h1, h2, ofKind_app (by rw [List.length_take, List.length_take]; omega)]
  congr 1
  unfold ofKind
  by_cases h : x = k <;> simp [h]
end
end SB

set_option Elab.async false
set_option linter.all false
set_option maxRecDepth 100000
set_option maxHeartbeats 4000000
namespace SB
open PySem L2 StX
section
variable {P : Program} {w : World} {K : PySem.W.Frag} {mg : Str → Option Value} {base : Heap} {H H' : Hp}
def four : List Str := ["words", "work", "row", "at"]
structure FoundAt (K : PySem.W.Frag) (H : Hp) (D : Addr) (l : Str → Addr) (us : Str → List Addr) (cs : Str → List (List V)) : Prop where
  ob : H D = some (.dK [(.inr "words", .ref (l "words")), (.inr "work", .ref (l "work")), (.inr "row", .ref (l "row")), (.inr "at", .ref (l "at"))])
  lst : ∀ k ∈ four, H (l k) = some (.lst ((us k).map V.ref))
  W : ∀ k ∈ four, RwsAt K H (us k) (cs k)
  inj : ∀ k ∈ four, ∀ k' ∈ four, l k = l k' → k = k'
variable {D : Addr} {l : Str → Addr} {us : Str → List Addr} {cs : Str → List (List V)}
theorem FoundAt.same (F : FoundAt K H D l us cs) (s : Same H H') : FoundAt K H' D l us cs := ⟨s _ _ F.ob, fun k hk => s _ _ (F.lst k hk), fun k hk => (F.W k hk).same s, F.inj⟩
theorem FoundAt.get (F : FoundAt K H D l us cs) {k : Str} (hk : k ∈ four) : DGet H D (.str k) (some (.ref (l k))) := by
  have hk' : k = "words" ∨ k = "work" ∨ k = "row" ∨ k = "at" := by simpa [four] using hk
  have g := fun z : Str => DGet.k (k := .inr z) F.ob
  rcases hk' with rfl | rfl | rfl | rfl
  · exact g "words"
  · exact g "work"
  · exact g "row"
  · exact g "at"
theorem FoundAt.put (F : FoundAt K H D l us cs) {k : Str} {p : Addr} {r : List V} (hk : k ∈ four) (hp : SqT K H p r) :
    FoundAt K (upd H (l k) (.lst ((us k).map V.ref ++ [.ref p]))) D l (fun x => if x = k then us k ++ [p] else us x) (fun x => cs x ++ if k = x then [r] else []) := by
  have hl := F.lst k hk
  refine ⟨?_, fun x hx => ?_, fun x hx => ?_, F.inj⟩
  · rw [upd_ne (ne_of F.ob hl (by intro z; cases z))]
    exact F.ob
  · by_cases e : x = k
    · subst e
      rw [if_pos rfl, upd_same, List.map_append]
      rfl
    · rw [if_neg e, upd_ne (fun z => e (F.inj x hx k hk z))]
      exact F.lst x hx
  · have hW : RwsAt K (upd H (l k) (.lst ((us k).map V.ref ++ [.ref p]))) (us x) (cs x) := ⟨(F.W x hx).len, fun j q s e1 e2 => sqT_put hl ((F.W x hx).at_ j q s e1 e2)⟩
    by_cases e : x = k
    · subst e
      rw [if_pos rfl]
      show RwsAt K _ _ (cs x ++ if x = x then [r] else [])
      rw [if_pos rfl]
      exact hW.app (RwsAt.one (sqT_put hl hp))
    · rw [if_neg e]
      show RwsAt K _ _ (cs x ++ if k = x then [r] else [])
      rw [if_neg (Ne.symm e), List.append_nil]
      exact hW
theorem kinds_four {ks : List Wk} {prog : List Row} {as : List (Int × Int)} {k : Str} (h : k ∈ kindsV ks prog as) : k ∈ four := by
  unfold kindsV at h
  rcases List.mem_append.mp h with h | h
  · rcases List.mem_append.mp h with h | h
    · rcases List.mem_append.mp h with h | h
      · rw [List.mem_singleton.mp h]; decide +kernel
      · rw [(List.mem_replicate.mp h).2]; decide +kernel
    · rw [(List.mem_replicate.mp h).2]; decide +kernel
  · rw [(List.mem_replicate.mp h).2]; decide +kernel
theorem ofKind_all {prog : List Row} {ks : List Wk} {ws : List Int} {as : List (Int × Int)} :
    ofKind "words" (rowsV prog ks ws as) (kindsV ks prog as) = [V.str "words" :: ws.map V.int] ∧ ofKind "work" (rowsV prog ks ws as) (kindsV ks prog as) = ks.map wkV ∧
    ofKind "row" (rowsV prog ks ws as) (kindsV ks prog as) = prog.map Row.vs ∧ ofKind "at" (rowsV prog ks ws as) (kindsV ks prog as) = as.map atV := by
  have key : ∀ k : Str, ofKind k (rowsV prog ks ws as) (kindsV ks prog as) = ofKind k [V.str "words" :: ws.map V.int] ["words"] ++ (if ("work" : Str) = k then ks.map wkV else []) ++ (if ("row" : Str) = k then prog.map Row.vs else []) ++ (if ("at" : Str) = k then as.map atV else []) := fun k => by
    have e1 := ofKind_rep (k := k) (k' := "work") (ks.map wkV)
    have e2 := ofKind_rep (k := k) (k' := "row") (prog.map Row.vs)
    have e3 := ofKind_rep (k := k) (k' := "at") (as.map atV)
    rw [List.length_map] at e1 e2 e3
    unfold rowsV kindsV
    rw [ofKind_app (by simp), ofKind_app (by simp), ofKind_app (by rfl), e1, e2, e3]
  have n1 : ¬ ("work" : Str) = "words" := by decide +kernel
  have n2 : ¬ ("row" : Str) = "words" := by decide +kernel
  have n3 : ¬ ("at" : Str) = "words" := by decide +kernel
  have n4 : ¬ ("words" : Str) = "work" := by decide +kernel
  have n5 : ¬ ("row" : Str) = "work" := by decide +kernel
  have n6 : ¬ ("at" : Str) = "work" := by decide +kernel
  have n7 : ¬ ("words" : Str) = "row" := by decide +kernel
  have n8 : ¬ ("work" : Str) = "row" := by decide +kernel
  have n9 : ¬ ("at" : Str) = "row" := by decide +kernel
  have m1 : ¬ ("words" : Str) = "at" := by decide +kernel
  have m2 : ¬ ("work" : Str) = "at" := by decide +kernel
  have m3 : ¬ ("row" : Str) = "at" := by decide +kernel
  have o : ∀ k : Str, ofKind k [V.str "words" :: ws.map V.int] ["words"] = if ("words" : Str) = k then [V.str "words" :: ws.map V.int] else [] := fun k => ofKind_rep [V.str "words" :: ws.map V.int]
  refine ⟨?_, ?_, ?_, ?_⟩
  · rw [key, o, if_pos rfl, if_neg n1, if_neg n2, if_neg n3, List.append_nil, List.append_nil, List.append_nil]
  · rw [key, o, if_neg n4, if_pos rfl, if_neg n5, if_neg n6, List.append_nil, List.append_nil, List.nil_append]
  · rw [key, o, if_neg n7, if_neg n8, if_pos rfl, if_neg n9, List.append_nil, List.nil_append, List.nil_append]
  · rw [key, o, if_neg m1, if_neg m2, if_neg m3, if_pos rfl, List.nil_append, List.nil_append, List.nil_append]
end
end SB

set_option Elab.async false
set_option linter.all false
set_option maxRecDepth 100000
set_option maxHeartbeats 4000000
namespace SB
open PySem L2 StX
section
variable {P : Program} {w : World} {K : PySem.W.Frag} {mg : Str → Option Value} {base : Heap} {H H' : Hp}
structure Good28p (prog : List Row) (ks : List Wk) (ws : List Int) (as : List (Int × Int)) : Prop where
  p0 : 0 < prog.length
  p40 : prog.length ≤ 40
  pok : ∀ r ∈ prog, r.ok prog.length
  k6 : ks.length ≤ 6
  kok : ∀ k ∈ ks, WOk ks.length k
  w4 : 4 ≤ ws.length
  w32 : ws.length ≤ 32
  wok : ∀ x ∈ ws, rg 0 999 x
  ao : AOk ks.length as
def sp_read (K : PySem.W.Frag) : Sp := fun vs H Q _ => ∃ (prog : List Row) (ks : List Wk) (ws : List Int) (as : List (Int × Int)), vs = [.str (textV (rowsV prog ks ws as))] ∧ Good28p prog ks ws as ∧
  ∀ (H' : Hp) (t pa wl ml al : Addr) (rs ts qs : List Addr), H' t = some (.tup [.ref pa, .ref wl, .ref ml, .ref al]) → ProgAt K H' pa rs prog → TupsAt H' wl ts (ks.map Wk.vs) → H' ml = some (.lst (ws.map V.int)) → TupsAt H' al qs (as.map puV) → wl ≠ ml → wl ≠ al → ml ≠ al → H wl = none → H ml = none → H al = none → Same H H' → Q (.ref t) H'
theorem prs28 {k : V} {tv : TE} {r : List (TE × TE)} {σ : L2.St} {H : Hp} {Q : List (V × V) → Hp → Prop} (h : tv σ H fun y H2 => tPairs r σ H2 fun ps H3 => Q ((k, y) :: ps) H3) : tPairs ((tC k, tv) :: r) σ H Q := h
theorem sasg28 {te : TE} {g : TG} {t : TS} {D : Ends} {σ : L2.St} {H : Hp} (h : te σ H fun x H1 => g x σ H1 (t D)) : tSeq (tAsg te g) t D σ H := h
theorem slice1 {z : V} {r : List V} {a : Addr} {Q : VK} (ht : SqT K H a (z :: r)) (h : ∀ t, H t = none → Q (.ref t) (upd H t (.tup r))) : rSlT K (.ref a) (some 1) none H Q := by
  refine ⟨a, _, rfl, ht, ?_, fun t nt => ?_⟩
  · rw [List.length_cons, sIx1]
    exact fun z => absurd z.1 (by decide)
  · rw [cut1]
    exact h t nt
abbrev NR : List Str := ["text", "rows", "found", "kind", "parts", "program", "works", "memory", "asks", "row", "part"]
theorem ok_read (T : T w K mg) : FnR P w K mg base CX0 6 (He.ga K "read") (sp_read K) := by
  have F_check_hall : FnR P w K mg base CX0 5 _ _ := ok_check_hall T
  have F_kinds_of : FnR P w K mg base CX0 4 _ _ := ok_kinds_of T
  have F_part_read : FnR P w K mg base CX0 2 _ _ := ok_part_read T
  obtain ⟨fd, F⟩ := T.f_read
  refine F.r sc_read (fun _ _ _ _ _ _ us hl => match us, hl with | [_], _ => rfl) (fun vs H Q E h => ?_) (fun cdv A outer s H vs Q E hr h => ?_)
  · obtain ⟨_, _, _, _, rfl, _⟩ := h
    rfl
  · obtain ⟨prog, ks, ws, as, rfl, G, q⟩ := h
    have hu := hr.units
    have hu1 : (A.deeper (PyProof.Rows.envOfC "read" (defScope s_read) s.heap.objs.size (He.ga K "read") cdv)).units + 1 < cLine := by omega
    refine ⟨_, (pss_cons (ps_setLc (i := 1) (own := [("row", 9)]) (g := gName 9) (tt := tYes) (te := tM1 rSpl (tVar 9) (tC (.str " "))) rfl sc_read.nd rfl rfl (sw_true rfl rfl rfl (by decide +kernel)) (pi_list (pe_split (pv 0) pe_str)) (blkOk_by (N := NR) (sc := defScope s_read) (by decide +kernel)) (fun _ _ _ _ _ => pg_name (i := 9) sc_read.nd rfl (Or.inl rfl)) (fun _ _ _ _ _ => pts_nil) (fun _ _ _ _ _ => pe_split (pv 9) pe_str))
      (pss_cons (ps_set (i := 2) sc_read.nd rfl (Or.inl rfl) (pe_disp (pps_cons pe_str (pe_lst pa_nil) (pps_cons pe_str (pe_lst pa_nil) (pps_cons pe_str (pe_lst pa_nil) (pps_cons pe_str (pe_lst pa_nil) pps_nil)))) rfl rfl (by decide) (by decide)))
      (pss_cons (ps_for PassesOwn.never rfl (RZ.pi_zipA rfl T.u_zip (pa_cons (pe_callR F_kinds_of (hr.mono (by decide)) rfl T.g_kinds_of T.k_kinds_of (pa_cons (pv 1) pa_nil)) (pa_cons (pv 1) pa_nil))) (pg_tup rfl (pgs_cons (pg_name (i := 3) sc_read.nd rfl (Or.inl rfl)) (pgs_cons (pg_name (i := 4) sc_read.nd rfl (Or.inl rfl)) pgs_nil)))
      (pss_one (ps_expr (pe_bm PySem.F.plainAttrs_list PySem.F.slot_list_append PySem.F.type_list_append mt_append (pe_dget hu1 (pv 2) (pv 3) (fun _ _ => rfl)) (pa_cons (pe_callTy call_tuple_of rfl T.u_tuple (by decide +kernel) (pa_cons (pe_lc (own := [("part", 10)]) (g := gName 10) (tt := tYes) (te := tCallR (sp_part_read K) (tCons (tVar 10) tNil)) rfl sc_read.nd (pi_list (pv 4)) (blkOk_by (N := NR) (sc := defScope s_read) (by decide +kernel)) (fun _ _ _ _ _ => pg_name (i := 10) sc_read.nd rfl (Or.inl rfl)) (fun _ _ _ _ _ => pts_nil) (fun _ _ _ _ _ => pe_callR F_part_read (hr.mono (by decide)) rfl T.g_part_read T.k_part_read (pa_cons (pv 10) pa_nil))) pa_nil)) pa_nil)))))
      (pss_cons (ps_set (i := 5) sc_read.nd rfl (Or.inl rfl) (pe_callTy call_tuple_of rfl T.u_tuple (by decide +kernel) (pa_cons (pe_dget hu1 (pv 2) pe_str (fun _ _ => rfl)) pa_nil)))
      (pss_cons (ps_setLc (i := 6) (own := [("row", 9)]) (g := gName 9) (tt := tYes) (te := L2.tSl (rSlT K) (tVar 9) (tPart (tC (.int 1))) tNoPart) rfl sc_read.nd rfl rfl (sw_true rfl rfl rfl (by decide +kernel)) (pi_list (pe_dget hu1 (pv 2) pe_str (fun _ _ => rfl))) (blkOk_by (N := NR) (sc := defScope s_read) (by decide +kernel)) (fun _ _ _ _ _ => pg_name (i := 9) sc_read.nd rfl (Or.inl rfl)) (fun _ _ _ _ _ => pts_nil) (fun _ _ _ _ _ => pe_slice sl_tup (pv 9) (po_some pe_int) po_none))
      (pss_cons (ps_set (i := 7) sc_read.nd rfl (Or.inl rfl) (pe_callTy call_list_of rfl T.u_list (by decide +kernel) (pa_cons (pe_slice sl_tup (pe_ix ix_list (pe_dget hu1 (pv 2) pe_str (fun _ _ => rfl)) pe_int (fun _ _ => rfl)) (po_some pe_int) po_none) pa_nil)))
      (pss_cons (ps_setLc (i := 8) (own := [("row", 9)]) (g := gName 9) (tt := tYes) (te := L2.tSl (rSlT K) (tVar 9) (tPart (tC (.int 1))) tNoPart) rfl sc_read.nd rfl rfl (sw_true rfl rfl rfl (by decide +kernel)) (pi_list (pe_dget hu1 (pv 2) pe_str (fun _ _ => rfl))) (blkOk_by (N := NR) (sc := defScope s_read) (by decide +kernel)) (fun _ _ _ _ _ => pg_name (i := 9) sc_read.nd rfl (Or.inl rfl)) (fun _ _ _ _ _ => pts_nil) (fun _ _ _ _ _ => pe_slice sl_tup (pv 9) (po_some pe_int) po_none))
      (pss_cons (ps_expr (pe_callR F_check_hall (hr.mono (by decide)) rfl T.g_check_hall T.k_check_hall (pa_cons (pv 5) (pa_cons (pv 6) (pa_cons (pv 7) (pa_cons (pv 8) pa_nil))))))
      (pss_one (ps_ret (pe_tup (pa_cons (pv 5) (pa_cons (pv 6) (pa_cons (pv 7) (pa_cons (pv 8) pa_nil))))))))))))))), ?_⟩
    have hpt := pt_all G.p40 G.pok G.k6 G.kok G.wok G.w32 G.ao
    have hrn := rowsV_len (ws := ws) G.p40 G.k6 G.ao.len
    have hne : rowsV prog ks ws as ≠ [] := by simp [rowsV]
    have TR := txt_rows T G.p0 G.p40 G.pok G.k6 G.kok G.wok G.w32 G.ao
    refine sasg28 ?_
    refine split_lc (K := K) (i := 9) (rows := rowsV prog ks ws as) (σ := [some (.str (textV (rowsV prog ks ws as))), none, none, none, none, none, none, none, none, none, none]) (by show 9 < 11; decide) rfl hpt hne hrn (fun H1 R us A s1 => ?_)
    show tSeq _ _ _ [some (.str (textV (rowsV prog ks ws as))), some (.ref R), none, none, none, none, none, none, none, none, none] H1
    refine fun D nD => ?_
    have t1 : Same H1 (upd H1 D (.dK [])) := Same.new (Same.refl _) nD
    have d1 : upd H1 D (.dK []) D = some (.dK []) := upd_same
    generalize upd H1 D (.dK []) = H2 at t1 d1
    refine prs28 ⟨(show 0 ≤ sizeLine by decide), fun lw nw => ?_⟩
    have t2 : Same H2 (upd H2 lw (.lst [])) := Same.new (Same.refl _) nw
    have d2 : upd H2 lw (.lst []) lw = some (.lst []) := upd_same
    generalize upd H2 lw (.lst []) = H3 at t2 d2
    refine prs28 ⟨(show 0 ≤ sizeLine by decide), fun lk nk => ?_⟩
    have t3 : Same H3 (upd H3 lk (.lst [])) := Same.new (Same.refl _) nk
    have d3 : upd H3 lk (.lst []) lk = some (.lst []) := upd_same
    generalize upd H3 lk (.lst []) = H4 at t3 d3
    refine prs28 ⟨(show 0 ≤ sizeLine by decide), fun lr nr => ?_⟩
    have t4 : Same H4 (upd H4 lr (.lst [])) := Same.new (Same.refl _) nr
    have d4 : upd H4 lr (.lst []) lr = some (.lst []) := upd_same
    generalize upd H4 lr (.lst []) = H5 at t4 d4
    refine prs28 ⟨(show 0 ≤ sizeLine by decide), fun la na => ?_⟩
    have t5 : Same H5 (upd H5 la (.lst [])) := Same.new (Same.refl _) na
    have d5 : upd H5 la (.lst []) la = some (.lst []) := upd_same
    generalize upd H5 la (.lst []) = H6 at t5 d5
    have d6 : H6 D = some (.dK []) := t5 _ _ (t4 _ _ (t3 _ _ (t2 _ _ d1)))
    refine ⟨d6, [(.inr "words", .ref lw), (.inr "work", .ref lk), (.inr "row", .ref lr), (.inr "at", .ref la)], rfl, (show 4 ≤ 15 by decide), ?_⟩
    have sm6 : Same H1 (upd H6 D (.dK (mergeK [] [(.inr "words", .ref lw), (.inr "work", .ref lk), (.inr "row", .ref lr), (.inr "at", .ref la)]))) := fun b o e => by
      rw [upd_ne (ne_of_none e nD)]
      exact t5 _ _ (t4 _ _ (t3 _ _ (t2 _ _ (t1 _ _ e))))
    have hob : upd H6 D (.dK (mergeK [] [(.inr "words", .ref lw), (.inr "work", .ref lk), (.inr "row", .ref lr), (.inr "at", .ref la)])) D = some (.dK [((.inr ("words" : Str) : Key), .ref lw), (.inr ("work" : Str), .ref lk), (.inr ("row" : Str), .ref lr), (.inr ("at" : Str), .ref la)]) := by
      rw [upd_same]
      congr 2
    have hk1 : lk ≠ lw := fun e => by rw [e, d2] at nk; cases nk
    have hr1 : lr ≠ lw := fun e => by rw [e, t3 _ _ d2] at nr; cases nr
    have hr2 : lr ≠ lk := fun e => by rw [e, d3] at nr; cases nr
    have ha1 : la ≠ lw := fun e => by rw [e, t4 _ _ (t3 _ _ d2)] at na; cases na
    have ha2 : la ≠ lk := fun e => by rw [e, t4 _ _ d3] at na; cases na
    have ha3 : la ≠ lr := fun e => by rw [e, d4] at na; cases na
    have e2 := t5 _ _ (t4 _ _ (t3 _ _ d2))
    have e3 := t5 _ _ (t4 _ _ d3)
    have e4 := t5 _ _ d4
    have hl6 : ∀ {a : Addr}, H6 a = some (.lst []) → upd H6 D (.dK (mergeK [] [(.inr "words", .ref lw), (.inr "work", .ref lk), (.inr "row", .ref lr), (.inr "at", .ref la)])) a = some (.lst []) := fun {a} e => by
      rw [upd_ne (ne_of e d6 (by intro z; cases z))]
      exact e
    have f2 := hl6 e2
    have f3 := hl6 e3
    have f4 := hl6 e4
    have f5 := hl6 d5
    generalize upd H6 D (.dK (mergeK [] [(.inr "words", .ref lw), (.inr "work", .ref lk), (.inr "row", .ref lr), (.inr "at", .ref la)])) = H7 at sm6 hob f2 f3 f4 f5 ⊢
    have F7 : FoundAt K H7 D (fun k => if k = "words" then lw else if k = "work" then lk else if k = "row" then lr else la) (fun _ => []) (fun k => ofKind k ((rowsV prog ks ws as).take 0) ((kindsV ks prog as).take 0)) := by
      have el : ∀ k ∈ four, H7 (if k = "words" then lw else if k = "work" then lk else if k = "row" then lr else la) = some (.lst []) := fun k hk => by
        split
        · exact f2
        split
        · exact f3
        split
        · exact f4
        · exact f5
      refine ⟨hob, el, fun k hk => ⟨rfl, fun j p r e1 => by simp at e1⟩, fun k hk k' hk' e => ?_⟩
      have h1 : k = "words" ∨ k = "work" ∨ k = "row" ∨ k = "at" := by simpa [four] using hk
      have h2 : k' = "words" ∨ k' = "work" ∨ k' = "row" ∨ k' = "at" := by simpa [four] using hk'
      rcases h1 with rfl | rfl | rfl | rfl <;> rcases h2 with rfl | rfl | rfl | rfl <;> first | rfl | exact absurd e hk1 | exact absurd e hr1 | exact absurd e hr2 | exact absurd e ha1 | exact absurd e ha2 | exact absurd e ha3 | exact absurd e.symm hk1 | exact absurd e.symm hr1 | exact absurd e.symm hr2 | exact absurd e.symm ha1 | exact absurd e.symm ha2 | exact absurd e.symm ha3
    have free : ∀ {G G' : Hp} {a : Addr}, Same G G' → G' a = none → G a = none := fun {G G' a} e n => by
      cases z : G a with
      | none => rfl
      | some o => rw [e _ _ z] at n; cases n
    have hll : ∀ k : Str, H1 ((fun k : Str => if k = "words" then lw else if k = "work" then lk else if k = "row" then lr else la) k) = none := fun k => by
      show H1 (if k = "words" then lw else if k = "work" then lk else if k = "row" then lr else la) = none
      split
      · exact free t1 nw
      split
      · exact free t1 (free t2 nk)
      split
      · exact free t1 (free t2 (free t3 nr))
      · exact free t1 (free t2 (free t3 (free t4 na)))
    generalize (fun k : Str => if k = "words" then lw else if k = "work" then lk else if k = "row" then lr else la) = l at F7 hll
    show tSeq _ _ _ [some (.str (textV (rowsV prog ks ws as))), some (.ref R), some (.ref D), none, none, none, none, none, none, none, none] H7
    have A7 := A.same sm6
    refine ⟨_, rfl, R, us, tssV prog ks ws as, kindsV ks prog as, rfl, A7, TR, fun H8 kl hkl s8 => ?_⟩
    have F8 := F7.same s8
    have A8 := A7.same s8
    have hk0 : ∀ k ∈ four, kl ≠ l k := fun k hk e => by
      have := F8.lst k hk
      rw [← e, hkl] at this
      simp [kindsV] at this
    have hlen : us.length = (kindsV ks prog as).length := A8.len.trans TR.len
    refine ⟨_, rfl, kl, R, (kindsV ks prog as).map V.str, us.map V.ref, rfl, .inl ⟨SqL.of hkl, A8.lst, for_it (walk_zip (by rw [List.length_map, List.length_map, hlen, Nat.min_self])) (fun n σ H9 => ∃ v3 v4 uss, σ = [some (.str (textV (rowsV prog ks ws as))), some (.ref R), some (.ref D), v3, v4, none, none, none, none, none, none] ∧ FoundAt K H9 D l uss (fun k => ofKind k ((rowsV prog ks ws as).take n) ((kindsV ks prog as).take n)) ∧ Same H1 H9 ∧ H9 kl = some (.lst ((kindsV ks prog as).map V.str)))
      ⟨none, none, _, rfl, F8, sm6.trans s8, hkl⟩ (fun n σ H9 _ ⟨_, _, _, _, _, s9, k9⟩ => ⟨SqL.of k9, s9.seq A.lst⟩) ?_ ?_⟩⟩
    · rintro n v σ H9 H10 hn ⟨v3, v4, uss, rfl, F9, s9, k9⟩ ⟨t, x, y, rfl, nt, rfl, hx, hy⟩
      have hx : ((kindsV ks prog as).map V.str)[n]? = some x := hx
      have hy : (us.map V.ref)[n]? = some y := hy
      have hnu : n < us.length := by rw [hlen]; exact hn
      have hnr : n < (rowsV prog ks ws as).length := by
        have := A8.len
        unfold tssV at this
        rw [List.length_map] at this
        omega
      have ek := List.getElem?_eq_getElem hn
      have eu := List.getElem?_eq_getElem hnu
      have er := List.getElem?_eq_getElem hnr
      rw [List.getElem?_map, ek] at hx
      rw [List.getElem?_map, eu] at hy
      cases hx
      cases hy
      have hk4 := kinds_four (List.mem_of_getElem? ek)
      have hrp := hpt _ (List.mem_of_getElem? er)
      have L := A.at_ n _ (((rowsV prog ks ws as)[n]).map ptT) eu (by rw [List.getElem?_map, er]; rfl)
      have hsn := fun k => ofKind_snoc (k := k) er ek
      generalize (kindsV ks prog as)[n] = k at ek hk4 hsn ⊢
      generalize (rowsV prog ks ws as)[n] = r at er hrp hsn L
      generalize us[n] = p at eu L ⊢
      have s10 : Same H9 (upd H9 t (.tup [.str k, .ref p])) := Same.new (Same.refl _) nt
      have h10 : SqT K (upd H9 t (.tup [.str k, .ref p])) t [.str k, .ref p] := SqT.of upd_same
      generalize upd H9 t (.tup [.str k, .ref p]) = H10 at s10 h10 ⊢
      have F10 := F9.same s10
      have sH10 := s9.trans s10
      refine ⟨t, _, rfl, h10, rfl, _, _, rfl, _, _, rfl, rfl, ?_⟩
      refine ⟨_, rfl, _, rfl, D, .ref (l k), rfl, F10.get hk4, .inl ⟨rfl, _, SqL.of (F10.lst k hk4)⟩, ?_⟩
      dsimp only [tCons, tCB]
      refine map_lc (K := K) (i := 10) (a := p) (xs := (r.map ptT).map V.str) (ys := r) (by show 10 < 11; decide) (fun R' h => ⟨_, rfl, p, rfl, ⟨_, sH10.seq L⟩, h⟩) (sH10.seq L) (by rw [List.length_map, List.length_map]) (by rw [List.length_map, List.length_map]; exact Nat.le_trans hrp.2.1 (by decide)) (fun σ2 H11 j x y Q' hx hy h1 kk => ?_) (fun H11 R' hR' nR' s11 => ?_)
      · rw [List.getElem?_map, List.getElem?_map, hy] at hx
        cases hx
        have hv := hrp.1 y (List.mem_of_getElem? hy)
        exact ⟨_, h1, ptT y, y, rfl, Nat.le_trans (pt_len hv) (by decide), part_back hv, kk⟩
      · refine ⟨R', r, rfl, .inl ⟨SqL.of hR', fun q nq => ?_⟩⟩
        have s12 : Same H11 (upd H11 q (.tup r)) := Same.new (Same.refl _) nq
        have h12 : SqT K (upd H11 q (.tup r)) q r := SqT.of upd_same
        generalize upd H11 q (.tup r) = H12 at s12 h12 ⊢
        have F12 := (F10.same s11).same s12
        have k12 := s12 _ _ (s11 _ _ (s10 _ _ k9))
        refine ⟨l k, _, .ref q, rfl, rfl, F12.lst k hk4, ?_, ?_⟩
        · have w1 := (F12.W k hk4).len
          rw [List.length_map, w1]
          have : (ofKind k ((rowsV prog ks ws as).take n) ((kindsV ks prog as).take n)).length ≤ n := by
            unfold ofKind
            refine Nat.le_trans (List.length_filterMap_le _ _) ?_
            rw [List.length_zip, List.length_take]
            omega
          exact Nat.lt_of_le_of_lt (show _ ≤ 55 by omega) (by decide)
        · have F13 := F12.put hk4 h12
          have e : (fun k_1 => ofKind k_1 ((rowsV prog ks ws as).take n) ((kindsV ks prog as).take n) ++ if k = k_1 then [r] else []) = fun k_1 => ofKind k_1 ((rowsV prog ks ws as).take (n + 1)) ((kindsV ks prog as).take (n + 1)) := funext fun z => (hsn z).symm
          rw [e] at F13
          refine ⟨some (.str k), some (.ref p), _, rfl, F13, fun b o e => ?_, ?_⟩
          · rw [upd_ne (ne_of_none e (hll k))]
            exact s12 _ _ (s11 _ _ (s10 _ _ (s9 _ _ e)))
          · rw [upd_ne (hk0 k hk4)]
            exact k12
    · rintro σ H9 ⟨v3, v4, uss, rfl, F9, s9, k9⟩
      have hrk : (rowsV prog ks ws as).length = (kindsV ks prog as).length := by
        have := TR.len
        unfold tssV at this
        rw [List.length_map] at this
        exact this
      have F9 : FoundAt K H9 D l uss (fun k => ofKind k (rowsV prog ks ws as) (kindsV ks prog as)) := by
        have := F9
        rw [List.take_length, List.take_of_length_le (Nat.le_of_eq hrk)] at this
        exact this
      obtain ⟨o1, o2, o3, o4⟩ := ofKind_all (prog := prog) (ks := ks) (ws := ws) (as := as)
      have i1 : ("words" : Str) ∈ four := by decide +kernel
      have i2 : ("work" : Str) ∈ four := by decide +kernel
      have i3 : ("row" : Str) ∈ four := by decide +kernel
      have i4 : ("at" : Str) ∈ four := by decide +kernel
      have W1 : RwsAt K H9 (uss "words") (ofKind "words" (rowsV prog ks ws as) (kindsV ks prog as)) := F9.W _ i1
      have W2 : RwsAt K H9 (uss "work") (ofKind "work" (rowsV prog ks ws as) (kindsV ks prog as)) := F9.W _ i2
      have W3 : RwsAt K H9 (uss "row") (ofKind "row" (rowsV prog ks ws as) (kindsV ks prog as)) := F9.W _ i3
      have W4 : RwsAt K H9 (uss "at") (ofKind "at" (rowsV prog ks ws as) (kindsV ks prog as)) := F9.W _ i4
      rw [o1] at W1
      rw [o2] at W2
      rw [o3] at W3
      rw [o4] at W4
      refine ⟨_, rfl, D, .ref (l "row"), rfl, F9.get i3, l "row", _, rfl, .inl ⟨SqL.of (F9.lst _ i3), fun pa npa => ?_⟩⟩
      have s10 : Same H9 (upd H9 pa (.tup ((uss "row").map V.ref))) := Same.new (Same.refl _) npa
      have h10 : SqT K (upd H9 pa (.tup ((uss "row").map V.ref))) pa ((uss "row").map V.ref) := SqT.of upd_same
      dsimp only [gName, List.set]
      show tSeq (tAsg _ _) _ _ [some (.str (textV (rowsV prog ks ws as))), some (.ref R), some (.ref D), v3, v4, some (.ref pa), none, none, none, none, none] (upd H9 pa (.tup ((uss "row").map V.ref)))
      generalize upd H9 pa (.tup ((uss "row").map V.ref)) = H10 at s10 h10
      have W3' := W3.same s10
      have Pr : ProgAt K H10 pa (uss "row") prog := ⟨h10, by have := W3'.len; rw [List.length_map] at this; exact this, fun j t r e1 e2 => W3'.at_ j t _ e1 (by rw [List.getElem?_map, e2]; rfl)⟩
      have F10 := F9.same s10
      refine sasg28 ?_
      refine cut_lc (K := K) (i := 9) (a := l "work") (ps := uss "work") (rows := ks.map Wk.vs) (z := .str "work") (σ := [some (.str (textV (rowsV prog ks ws as))), some (.ref R), some (.ref D), v3, v4, some (.ref pa), none, none, none, none, none]) (by show 9 < 11; decide) (fun R' h => ⟨_, rfl, D, .ref (l "work"), rfl, F10.get i2, l "work", rfl, ⟨_, SqL.of (F10.lst _ i2)⟩, h⟩) (SqL.of (F10.lst _ i2)) (by rw [List.map_map]; exact W2.same s10) (by rw [List.length_map]; exact Nat.le_trans G.k6 (by decide)) (fun σ2 H3 p r Q' _ h1 ht kk => ⟨_, h1, _, rfl, slice1 ht kk⟩) (fun H11 wl ts TW nwl s11 => ?_)
      dsimp only [gName, List.set]
      show tSeq (tAsg _ _) _ _ [some (.str (textV (rowsV prog ks ws as))), some (.ref R), some (.ref D), v3, v4, some (.ref pa), some (.ref wl), none, none, none, none] H11
      have F11 := F10.same s11
      obtain ⟨p0, hp0⟩ : ∃ p0, uss "words" = [p0] := List.length_eq_one_iff.mp W1.len
      have t0 : SqT K H11 p0 (.str "words" :: ws.map V.int) := Same.tup s11 (Same.tup s10 (W1.at_ 0 p0 _ (by rw [hp0]; rfl) rfl))
      have Lw : SqL K H11 (l "words") [V.ref p0] := by
        have := F11.lst _ i1
        rw [hp0] at this
        exact SqL.of this
      refine ⟨_, rfl, D, .ref (l "words"), rfl, F11.get i1, l "words", _, 0, .ref p0, rfl, rfl, Lw, at0 _ _, _, rfl, ?_⟩
      dsimp only [tNoPart]
      refine slice1 t0 fun mt nmt => ?_
      refine ⟨mt, ws.map V.int, rfl, .inr (SqT.of upd_same), fun ml nml => ?_⟩
      have s12 : Same H11 (upd (upd H11 mt (.tup (ws.map V.int))) ml (.lst (ws.map V.int))) := fun b o e => by
        have := Same.new (o := .tup (ws.map V.int)) (Same.refl H11) nmt _ _ e
        rw [upd_ne (ne_of_none this nml)]
        exact this
      have h12 : upd (upd H11 mt (.tup (ws.map V.int))) ml (.lst (ws.map V.int)) ml = some (.lst (ws.map V.int)) := upd_same
      have nml11 : H11 ml = none := free (Same.new (o := .tup (ws.map V.int)) (Same.refl H11) nmt) nml
      dsimp only [gName, List.set]
      show tSeq (tAsg _ _) _ _ [some (.str (textV (rowsV prog ks ws as))), some (.ref R), some (.ref D), v3, v4, some (.ref pa), some (.ref wl), some (.ref ml), none, none, none] (upd (upd H11 mt (.tup (ws.map V.int))) ml (.lst (ws.map V.int)))
      generalize upd (upd H11 mt (.tup (ws.map V.int))) ml (.lst (ws.map V.int)) = H12 at s12 h12
      have F12 := F11.same s12
      refine sasg28 ?_
      refine cut_lc (K := K) (i := 9) (a := l "at") (ps := uss "at") (rows := as.map puV) (z := .str "at") (σ := [some (.str (textV (rowsV prog ks ws as))), some (.ref R), some (.ref D), v3, v4, some (.ref pa), some (.ref wl), some (.ref ml), none, none, none]) (by show 9 < 11; decide) (fun R' h => ⟨_, rfl, D, .ref (l "at"), rfl, F12.get i4, l "at", rfl, ⟨_, SqL.of (F12.lst _ i4)⟩, h⟩) (SqL.of (F12.lst _ i4)) (by rw [List.map_map]; exact ((W4.same s10).same s11).same s12) (by rw [List.length_map]; exact Nat.le_trans G.ao.len (by decide)) (fun σ2 H3 p r Q' _ h1 ht kk => ⟨_, h1, _, rfl, slice1 ht kk⟩) (fun H13 al qs TA nal s13 => ?_)
      dsimp only [gName, List.set]
      show tSeq _ _ _ [some (.str (textV (rowsV prog ks ws as))), some (.ref R), some (.ref D), v3, v4, some (.ref pa), some (.ref wl), some (.ref ml), some (.ref al), none, none] H13
      have TW13 := (TW.keep s12).keep s13
      have Pr13 := ((Pr.same s11).same s12).same s13
      have M13 := s13 _ _ h12
      have WA : WorksAt K H13 wl ts ks := ⟨SqL.of TW13.lst, by have := TW13.len; rw [List.length_map] at this; exact this, fun j t k e1 e2 => SqT.of (TW13.at_ j t _ e1 (by rw [List.getElem?_map, e2]; rfl))⟩
      have AA : AsksAt K H13 al qs as := ⟨SqL.of TA.lst, by have := TA.len; rw [List.length_map] at this; exact this, fun j t k e1 e2 => SqT.of (TA.at_ j t _ e1 (by rw [List.getElem?_map, e2]; rfl))⟩
      refine ⟨_, rfl, _, rfl, _, rfl, _, rfl, pa, wl, ml, al, uss "row", ts, qs, prog, ks, ws, as, rfl, Pr13, G.p0, G.p40, G.pok, WA, G.k6, G.kok, SqL.of M13, G.w4, G.w32, G.wok, AA, G.ao, fun H14 s14 => ?_⟩
      refine ⟨_, rfl, _, rfl, _, rfl, _, rfl, (show 4 ≤ sizeLine by decide), fun t nt => ?_⟩
      have s15 : Same H14 (upd H14 t (.tup [.ref pa, .ref wl, .ref ml, .ref al])) := Same.new (Same.refl _) nt
      have hw0 : ∀ {a : Addr}, H10 a = none → H a = none := fun n => free s1 (free s9 (free s10 n))
      have wlm : wl ≠ ml := fun e => by
        have := TW.lst
        rw [e, nml11] at this
        cases this
      have wla : wl ≠ al := fun e => by
        have := (TW.keep s12).lst
        rw [e, nal] at this
        cases this
      have mla : ml ≠ al := fun e => by rw [e, nal] at h12; cases h12
      exact q _ t pa wl ml al (uss "row") ts qs upd_same ((Pr13.same s14).same s15) ((TW13.keep s14).keep s15) (s15 _ _ (s14 _ _ M13)) ((TA.keep s14).keep s15) wlm wla mla (hw0 nwl) (hw0 (free s11 nml11)) (hw0 (free s11 (free s12 nal))) (fun b o e => s15 _ _ (s14 _ _ (s13 _ _ (s12 _ _ (s11 _ _ (s10 _ _ (s9 _ _ (s1 _ _ e))))))))
end
end SB

set_option Elab.async false
set_option linter.all false
set_option maxRecDepth 100000
set_option maxHeartbeats 4000000
namespace SB
open PySem L2 StX
section
variable {P : Program} {w : World} {K : PySem.W.Frag} {mg : Str → Option Value} {base : Heap} {H H' : Hp}
theorem lines_lcL {σ : L2.St} {i : Nat} {a : Addr} {ps : List Addr} {rows : List (List V)} {f : List V → Str} {ti : TI} {te : TE} {Q : VK} (hi : i < σ.length) (hti : ∀ R, R (Itl K a) H → ti σ H R) (L : SqL K H a (ps.map V.ref)) (W : RwsAt K H ps rows) (hl : rows.length ≤ 1000)
    (hte : ∀ (σ2 : L2.St) (H3 : Hp) (p : Addr) (r : List V) (Q' : VK), r ∈ rows → SqT K H3 p r → σ2[i]? = some (some (.ref p)) → (∀ H4, Same H3 H4 → Q' (.str (f r)) H4) → te σ2 H3 Q')
    (q : ∀ (H' : Hp) (R : Addr), H' R = some (.lst ((rows.map f).map V.str)) → Same H H' → Q (.ref R) H') : tLc ti (gName i) tYes te [i] σ H Q := by
  refine hti _ fun R nR => ?_
  refine lc_list (K := K) (a := a) (xs := ps.map V.ref) (fun k H5 => H5 R = some (.lst (((rows.take k).map f).map V.str)) ∧ Same H H5) ⟨upd_same, Same.new (Same.refl _) nR⟩ (fun k H5 _ ⟨_, s5⟩ => s5.seq L) ?_ ?_
  · rintro k x H5 hx ⟨hR, s5⟩
    rw [List.getElem?_map] at hx
    cases hp : ps[k]? with
    | none => rw [hp] at hx; cases hx
    | some p =>
      rw [hp] at hx
      cases hx
      have hk : k < rows.length := by rw [← W.len]; exact (List.getElem?_eq_some_iff.mp hp).1
      have hr := List.getElem?_eq_getElem hk
      have ht := Same.tup s5 (W.at_ k p _ hp hr)
      refine ⟨wipe28, yes ?_⟩
      refine hte _ _ p _ _ (List.mem_of_getElem? hr) ht (look28 hi) (fun H6 s6 => ?_)
      refine ⟨_, s6 _ _ hR, ?_, ?_, ?_⟩
      · rw [List.length_map, List.length_map, List.length_take]
        exact Nat.lt_of_le_of_lt (show min k rows.length ≤ 1000 by omega) (by decide)
      · rw [upd_same, List.take_add_one, hr, List.map_append, List.map_append]
        rfl
      · intro b o e
        rw [upd_ne (ne_of_none e nR)]
        exact s6 _ _ (s5 _ _ e)
  · rintro H5 ⟨hR, s5⟩
    rw [List.length_map, W.len, List.take_length] at hR
    exact q _ R hR s5
theorem lines_lcT {σ : L2.St} {i : Nat} {a : Addr} {ps : List Addr} {rows : List (List V)} {f : List V → Str} {ti : TI} {te : TE} {Q : VK} (hi : i < σ.length) (hti : ∀ R, R (Itt K a) H → ti σ H R) (L : SqT K H a (ps.map V.ref)) (W : RwsAt K H ps rows) (hl : rows.length ≤ 1000)
    (hte : ∀ (σ2 : L2.St) (H3 : Hp) (p : Addr) (r : List V) (Q' : VK), r ∈ rows → SqT K H3 p r → σ2[i]? = some (some (.ref p)) → (∀ H4, Same H3 H4 → Q' (.str (f r)) H4) → te σ2 H3 Q')
    (q : ∀ (H' : Hp) (R : Addr), H' R = some (.lst ((rows.map f).map V.str)) → Same H H' → Q (.ref R) H') : tLc ti (gName i) tYes te [i] σ H Q := by
  refine hti _ fun R nR => ?_
  refine lc_tup (K := K) (a := a) (xs := ps.map V.ref) (fun k H5 => H5 R = some (.lst (((rows.take k).map f).map V.str)) ∧ Same H H5) ⟨upd_same, Same.new (Same.refl _) nR⟩ (fun k H5 _ ⟨_, s5⟩ => Same.tup s5 L) ?_ ?_
  · rintro k x H5 hx ⟨hR, s5⟩
    rw [List.getElem?_map] at hx
    cases hp : ps[k]? with
    | none => rw [hp] at hx; cases hx
    | some p =>
      rw [hp] at hx
      cases hx
      have hk : k < rows.length := by rw [← W.len]; exact (List.getElem?_eq_some_iff.mp hp).1
      have hr := List.getElem?_eq_getElem hk
      have ht := Same.tup s5 (W.at_ k p _ hp hr)
      refine ⟨wipe28, yes ?_⟩
      refine hte _ _ p _ _ (List.mem_of_getElem? hr) ht (look28 hi) (fun H6 s6 => ?_)
      refine ⟨_, s6 _ _ hR, ?_, ?_, ?_⟩
      · rw [List.length_map, List.length_map, List.length_take]
        exact Nat.lt_of_le_of_lt (show min k rows.length ≤ 1000 by omega) (by decide)
      · rw [upd_same, List.take_add_one, hr, List.map_append, List.map_append]
        rfl
      · intro b o e
        rw [upd_ne (ne_of_none e nR)]
        exact s6 _ _ (s5 _ _ e)
  · rintro H5 ⟨hR, s5⟩
    rw [List.length_map, W.len, List.take_length] at hR
    exact q _ R hR s5
def d28 (prog : List Row) (ks : List Wk) (ws : List Int) (as : List (Int × Int)) : PyData := .tuple [.tuple (prog.map fun r => .tuple (r.vs.map dV28)), .list (ks.map fun k => .tuple (k.vs.map dV28)), .list (ws.map PyData.int), .list (as.map fun a => .tuple ((puV a).map dV28))]
where dV28 : V → PyData
  | .int i => .int i
  | .str z => .str z
  | _ => .none
theorem known_text : textV (rowsV [.fin] [] [0, 1, 2, 3] []) = "words 0 1 2 3\nend" := by decide +kernel
theorem known_good : Good28p [.fin] [] [0, 1, 2, 3] [] := by
  refine ⟨by decide, by decide, fun r hr => ?_, by decide, fun k hk => ?_, by decide, by decide, fun x hx => ?_, ⟨by decide, fun a ha => ?_, fun i a b e1 => ?_⟩⟩
  · rw [List.mem_singleton.mp hr]
    trivial
  · exact absurd hk (by simp)
  · simp only [List.mem_cons, List.not_mem_nil, or_false] at hx
    rcases hx with rfl | rfl | rfl | rfl <;> exact ⟨by decide, by decide⟩
  · exact absurd ha (by simp)
  · simp at e1
end
end SB

set_option Elab.async false
set_option linter.all false
set_option maxRecDepth 100000
namespace L2
open PySem PySem.Spec PyProof.Rows
section
variable {X : Cx}
def rUpdD : V → List V → Hp → VK → Prop := fun x vs H Q => ∃ (a o : Addr) (kvs more : List (Key × V)), x = .ref a ∧ vs = [.ref o] ∧ H a = some (.dK kvs) ∧ H o = some (.dK more) ∧ a ≠ o ∧ kvs.length + more.length ≤ sizeLine ∧ Q .non (upd H a (.dK (mergeK kvs more)))
theorem mt_updD : MtM X "dict.update" rUpdD := by
  intro pins s σ H x vs v us Q I rx rv h
  obtain ⟨a, o, kvs, more, rfl, rfl, hH, hO, hne, hz, q⟩ := h
  cases rx
  obtain ⟨u, rfl, ru⟩ := rv.one
  cases ru
  obtain ⟨z, hsm, vs0, r0, dd⟩ := dk_of I.hok hH
  obtain ⟨z2, hsm2, vs2, r2, dd2⟩ := dk_of I.hok hO
  have hlen : (mergeK kvs more).length ≤ sizeLine := Nat.le_trans (length_mergeK more kvs) (by omega)
  refine call_meetsIn F.slot_dict_update dd.typeIs F.entry_dict_update (F.args_dict_update_2 _ _) (meets_dict_update (mixKind X.prog X.w) a o hne hsm2)
    ⟨vs0, vs2, dd, dd2, (by rw [← r0.length, ← r2.length]; exact hz), fun h' hmm _ hs => ?_⟩
  have he : ∃ q, h'.get? a = some q := let ⟨q, _, _, hq, _⟩ := hmm; ⟨q, hq⟩
  exact ⟨.non, _, I.write (t' := s.toks) (x := a) (e := a) (by rw [hH]; exact True.intro) (.inl rfl) (fun b o hb e => by rw [hs.2 b hb]; exact e) he (dk_new hlen hsm (KV.merge r2 r0) hmm), rfl, q⟩
end
end L2

set_option Elab.async false
set_option linter.all false
set_option maxRecDepth 100000
set_option maxHeartbeats 2000000
namespace SB
open PySem PySem.Spec PyProof.Rows L2
structure Ls where
  program : Addr
  works : Addr
  memory : Addr
  asks : Addr
  cells : Addr
  marks : Addr
  row : Int
  left : Int
  time : Int
  on : Addr
  ever : Int
  took : Bool
  firsts : Addr
  laid : Addr
  pairs : Addr
  half : Int
def lsK (k : Ls) : List (Key × V) := [(.inr "program", .ref k.program), (.inr "works", .ref k.works), (.inr "memory", .ref k.memory), (.inr "asks", .ref k.asks), (.inr "cells", .ref k.cells), (.inr "marks", .ref k.marks), (.inr "row", .int k.row), (.inr "left", .int k.left), (.inr "time", .int k.time), (.inr "on", .ref k.on), (.inr "ever", .int k.ever), (.inr "took", .bl k.took), (.inr "firsts", .ref k.firsts), (.inr "laid", .ref k.laid), (.inr "pairs", .ref k.pairs), (.inr "half", .int k.half)]
theorem ls_program (k : Ls) : valV (lsK k) (.inr ("program" : Str)) = some (V.ref k.program) := by kernel_rfl
theorem ls_put_program (k : Ls) (x : Addr) : putK (lsK k) (.inr ("program" : Str)) (V.ref x) = lsK { k with program := x } := by kernel_rfl
theorem ls_works (k : Ls) : valV (lsK k) (.inr ("works" : Str)) = some (V.ref k.works) := by kernel_rfl
theorem ls_put_works (k : Ls) (x : Addr) : putK (lsK k) (.inr ("works" : Str)) (V.ref x) = lsK { k with works := x } := by kernel_rfl
theorem ls_memory (k : Ls) : valV (lsK k) (.inr ("memory" : Str)) = some (V.ref k.memory) := by kernel_rfl
theorem ls_put_memory (k : Ls) (x : Addr) : putK (lsK k) (.inr ("memory" : Str)) (V.ref x) = lsK { k with memory := x } := by kernel_rfl
theorem ls_asks (k : Ls) : valV (lsK k) (.inr ("asks" : Str)) = some (V.ref k.asks) := by kernel_rfl
theorem ls_put_asks (k : Ls) (x : Addr) : putK (lsK k) (.inr ("asks" : Str)) (V.ref x) = lsK { k with asks := x } := by kernel_rfl
theorem ls_cells (k : Ls) : valV (lsK k) (.inr ("cells" : Str)) = some (V.ref k.cells) := by kernel_rfl
theorem ls_put_cells (k : Ls) (x : Addr) : putK (lsK k) (.inr ("cells" : Str)) (V.ref x) = lsK { k with cells := x } := by kernel_rfl
theorem ls_marks (k : Ls) : valV (lsK k) (.inr ("marks" : Str)) = some (V.ref k.marks) := by kernel_rfl
theorem ls_put_marks (k : Ls) (x : Addr) : putK (lsK k) (.inr ("marks" : Str)) (V.ref x) = lsK { k with marks := x } := by kernel_rfl
theorem ls_row (k : Ls) : valV (lsK k) (.inr ("row" : Str)) = some (V.int k.row) := by kernel_rfl
theorem ls_put_row (k : Ls) (x : Int) : putK (lsK k) (.inr ("row" : Str)) (V.int x) = lsK { k with row := x } := by kernel_rfl
theorem ls_left (k : Ls) : valV (lsK k) (.inr ("left" : Str)) = some (V.int k.left) := by kernel_rfl
theorem ls_put_left (k : Ls) (x : Int) : putK (lsK k) (.inr ("left" : Str)) (V.int x) = lsK { k with left := x } := by kernel_rfl
theorem ls_time (k : Ls) : valV (lsK k) (.inr ("time" : Str)) = some (V.int k.time) := by kernel_rfl
theorem ls_put_time (k : Ls) (x : Int) : putK (lsK k) (.inr ("time" : Str)) (V.int x) = lsK { k with time := x } := by kernel_rfl
theorem ls_on (k : Ls) : valV (lsK k) (.inr ("on" : Str)) = some (V.ref k.on) := by kernel_rfl
theorem ls_put_on (k : Ls) (x : Addr) : putK (lsK k) (.inr ("on" : Str)) (V.ref x) = lsK { k with on := x } := by kernel_rfl
theorem ls_ever (k : Ls) : valV (lsK k) (.inr ("ever" : Str)) = some (V.int k.ever) := by kernel_rfl
theorem ls_put_ever (k : Ls) (x : Int) : putK (lsK k) (.inr ("ever" : Str)) (V.int x) = lsK { k with ever := x } := by kernel_rfl
theorem ls_took (k : Ls) : valV (lsK k) (.inr ("took" : Str)) = some (V.bl k.took) := by kernel_rfl
theorem ls_put_took (k : Ls) (x : Bool) : putK (lsK k) (.inr ("took" : Str)) (V.bl x) = lsK { k with took := x } := by kernel_rfl
theorem ls_firsts (k : Ls) : valV (lsK k) (.inr ("firsts" : Str)) = some (V.ref k.firsts) := by kernel_rfl
theorem ls_put_firsts (k : Ls) (x : Addr) : putK (lsK k) (.inr ("firsts" : Str)) (V.ref x) = lsK { k with firsts := x } := by kernel_rfl
theorem ls_laid (k : Ls) : valV (lsK k) (.inr ("laid" : Str)) = some (V.ref k.laid) := by kernel_rfl
theorem ls_put_laid (k : Ls) (x : Addr) : putK (lsK k) (.inr ("laid" : Str)) (V.ref x) = lsK { k with laid := x } := by kernel_rfl
theorem ls_pairs (k : Ls) : valV (lsK k) (.inr ("pairs" : Str)) = some (V.ref k.pairs) := by kernel_rfl
theorem ls_put_pairs (k : Ls) (x : Addr) : putK (lsK k) (.inr ("pairs" : Str)) (V.ref x) = lsK { k with pairs := x } := by kernel_rfl
theorem ls_half (k : Ls) : valV (lsK k) (.inr ("half" : Str)) = some (V.int k.half) := by kernel_rfl
theorem ls_put_half (k : Ls) (x : Int) : putK (lsK k) (.inr ("half" : Str)) (V.int x) = lsK { k with half := x } := by kernel_rfl
theorem ls_made (program : Addr) (works : Addr) (memory : Addr) (asks : Addr) (cells : Addr) (marks : Addr) (row : Int) (left : Int) (time : Int) (on : Addr) (ever : Int) (took : Bool) (firsts : Addr) (laid : Addr) (pairs : Addr) (half : Int) : mergeK (mergeK (mergeK [] [((.inr ("program" : Str) : Key), V.ref program), ((.inr ("works" : Str) : Key), V.ref works), ((.inr ("memory" : Str) : Key), V.ref memory), ((.inr ("asks" : Str) : Key), V.ref asks), ((.inr ("cells" : Str) : Key), V.ref cells)]) [((.inr ("marks" : Str) : Key), V.ref marks), ((.inr ("row" : Str) : Key), V.int row), ((.inr ("left" : Str) : Key), V.int left), ((.inr ("time" : Str) : Key), V.int time), ((.inr ("on" : Str) : Key), V.ref on)]) [((.inr ("ever" : Str) : Key), V.int ever), ((.inr ("took" : Str) : Key), V.bl took), ((.inr ("firsts" : Str) : Key), V.ref firsts), ((.inr ("laid" : Str) : Key), V.ref laid), ((.inr ("pairs" : Str) : Key), V.ref pairs), ((.inr ("half" : Str) : Key), V.int half)] = lsK ⟨program, works, memory, asks, cells, marks, row, left, time, on, ever, took, firsts, laid, pairs, half⟩ := by kernel_rfl
theorem ls_len (k : Ls) : (lsK k).length = 16 := rfl
end SB

set_option Elab.async false
set_option linter.all false
set_option maxRecDepth 100000
set_option maxHeartbeats 2000000
namespace SB
open PySem PySem.Spec PyProof.Rows L2
theorem at_0m {x : V} {xs : List V} : atI (x :: xs) 0 = some x := by
  unfold atI ixN
  simp
def longOf (prog : List Row) (row : Int) : Int := match prog[row.toNat]? with
  | none => 0
  | some r => r.beats
def Row.isPL : Row → Bool
  | .pair _ _ => true | .lay _ _ => true | _ => false
def Row.isW : Row → Bool
  | .get _ _ => true | .getx _ _ => true | .put _ _ => true | .putx _ _ => true | .pair _ _ => true | .lay _ _ => true | _ => false
theorem in_pl (r : Row) : inV (.str r.nm) [.str "pair", .str "lay"] = r.isPL := by cases r <;> kernel_rfl
theorem in_w (r : Row) : inV (.str r.nm) [.str "get", .str "getx", .str "put", .str "putx", .str "pair", .str "lay"] = r.isW := by cases r <;> kernel_rfl
theorem nm_rest {r : Row} (h : r.nm = "rest") : ∃ n, r = .rest n := by
  cases r <;> first | exact ⟨_, rfl⟩ | exact absurd h (of_decide_eq_false (by kernel_rfl))
theorem beats_pl {r : Row} (h : ∀ n, r ≠ .rest n) : r.beats = if r.isPL = true then 2 else 1 := by
  cases r <;> first | rfl | exact absurd rfl (h _)
theorem isW_word {r : Row} (sp : Int) (c : List Int) : (r.word sp c).isSome = r.isW := by cases r <;> rfl
section
variable {P : Program} {w : World} {K : PySem.W.Frag} {mg : Str → Option Value} {base : Heap} {H H' : Hp}
def sp_l_long (K : PySem.W.Frag) : Sp := fun vs H Q _ => ∃ (pa : Addr) (rs : List Addr) (prog : List Row) (row : Int), vs = [.ref pa, .int row] ∧ ProgAt K H pa rs prog ∧ 0 ≤ row ∧ ∀ H', Same H H' → Q (.int (longOf prog row)) H'
structure LsAt (K : PySem.W.Frag) (H : Hp) (sd : Addr) (k : Ls) (rs : List Addr) (s : HS) : Prop where
  ob : H sd = some (.dK (lsK k))
  pr : ProgAt K H k.program rs s.prog
  wk : H k.works = some (.lst [])
  ak : H k.asks = some (.lst [])
  on : H k.on = some (.lst [])
  mem : H k.memory = some (.lst (s.ws.map V.int))
  cel : H k.cells = some (.lst (s.S.cells.map V.int))
  mrk : H k.marks = some (.lst (s.S.marks.map V.bl))
  fst : ∃ fs : List (Option Int), H k.firsts = some (.lst (fs.map oV)) ∧ fs.length = s.prog.length
  prs : ∃ xs, H k.pairs = some (.lst xs) ∧ (xs.length : Int) ≤ s.beats
  row : k.row = s.S.row
  left : k.left = longOf s.prog s.S.row - s.S.spent
  time : k.time = s.beats
  nd : [k.memory, k.cells, k.marks, k.firsts, k.pairs, k.on, k.asks, k.works].Nodup
def sp_l_is_for_word (K : PySem.W.Frag) : Sp := fun vs H Q _ => ∃ (sd : Addr) (k : Ls) (rs : List Addr) (prog : List Row), vs = [.ref sd] ∧ H sd = some (.dK (lsK k)) ∧ ProgAt K H k.program rs prog ∧ 0 ≤ k.row ∧ ∀ H', Same H H' → Q (.bl (match prog[k.row.toNat]? with | some r => r.isW | none => false)) H'
end
end SB

set_option Elab.async false
set_option linter.all false
set_option maxRecDepth 100000
set_option maxHeartbeats 2000000
namespace SB
open PySem PySem.Spec PyProof.Rows L2
section
variable {P : Program} {w : World} {K : PySem.W.Frag} {mg : Str → Option Value} {base : Heap} {H H' : Hp}
def sp_l_start0 (K : PySem.W.Frag) : Sp := fun vs H Q _ => ∃ (sd : Addr) (k : Ls) (n : Int), vs = [.ref sd, .int n] ∧ H sd = some (.dK (lsK k)) ∧ SqL K H k.works [] ∧ 0 ≤ n ∧ Q .non H
def sp_l_device0 (K : PySem.W.Frag) : Sp := fun vs H Q _ => ∃ (sd : Addr) (k : Ls), vs = [.ref sd] ∧ H sd = some (.dK (lsK k)) ∧ H k.on = some (.lst []) ∧
  ∀ H', H' sd = some (.dK (lsK { k with took := false })) → Kept [sd] H H' → (∀ b, H' b = none → H b = none) → Q .non H'
end
end SB

set_option Elab.async false
set_option linter.all false
set_option maxRecDepth 100000
set_option maxHeartbeats 2000000
namespace SB
open PySem PySem.Spec PyProof.Rows L2
def Row.isG : Row → Bool
  | .get _ _ => true | .getx _ _ => true | .pair _ _ => true | _ => false
theorem in_g (r : Row) : inV (.str r.nm) [.str "get", .str "getx", .str "pair"] = r.isG := by cases r <;> kernel_rfl
theorem get_facts {r : Row} {n : Nat} {sp : Int} {c : List Int} {z : Str} {p cl : Int} (hG : r.isG = true) (h : r.word sp c = some (z, p, cl)) (ok : r.okW n) (s0 : 0 ≤ sp) (s1 : sp < r.beats) :
    z = "get" ∧ ∃ r1 r2 : Int, r.vs = [.str r.nm, .int r1, .int r2] ∧ cl = r1 + sp ∧ (r.nm = "getx" → p = c.getD r2.toNat 0 ∧ 0 ≤ r2 ∧ r2 < 4) ∧ (r.nm ≠ "getx" → p = r2 + sp) := by
  cases r with
  | get a b =>
    have e := Option.some.inj h
    have h1 : sp = 0 := by have : sp < 1 := s1; omega
    simp only [Prod.mk.injEq] at e
    exact ⟨e.1.symm, a, b, rfl, by omega, fun hn => absurd hn (of_decide_eq_false (by kernel_rfl)), fun _ => by omega⟩
  | getx a b =>
    have e := Option.some.inj h
    have h1 : sp = 0 := by have : sp < 1 := s1; omega
    simp only [Prod.mk.injEq] at e
    obtain ⟨_, ok2⟩ := ok
    obtain ⟨o1, o2⟩ := ok2
    exact ⟨e.1.symm, a, b, rfl, by omega, fun _ => ⟨e.2.1.symm, by omega, by omega⟩, fun hn => absurd (by kernel_rfl) hn⟩
  | pair a b =>
    have e := Option.some.inj h
    simp only [Prod.mk.injEq] at e
    exact ⟨e.1.symm, a, b, rfl, by omega, fun hn => absurd hn (of_decide_eq_false (by kernel_rfl)), fun _ => by omega⟩
  | _ => cases hG
theorem put_facts {r : Row} {n : Nat} {sp : Int} {c : List Int} {z : Str} {p cl : Int} (hG : r.isG = false) (h : r.word sp c = some (z, p, cl)) (ok : r.okW n) (s0 : 0 ≤ sp) (s1 : sp < r.beats) :
    z = "put" ∧ ∃ r1 r2 : Int, r.vs = [.str r.nm, .int r1, .int r2] ∧ cl = r2 + sp ∧ (r.nm = "putx" → p = c.getD r1.toNat 0 ∧ 0 ≤ r1 ∧ r1 < 4) ∧ (r.nm ≠ "putx" → p = r1 + sp) := by
  cases r with
  | put a b =>
    have e := Option.some.inj h
    have h1 : sp = 0 := by have : sp < 1 := s1; omega
    simp only [Prod.mk.injEq] at e
    exact ⟨e.1.symm, a, b, rfl, by omega, fun hn => absurd hn (of_decide_eq_false (by kernel_rfl)), fun _ => by omega⟩
  | putx a b =>
    have e := Option.some.inj h
    have h1 : sp = 0 := by have : sp < 1 := s1; omega
    simp only [Prod.mk.injEq] at e
    obtain ⟨ok1, _⟩ := ok
    obtain ⟨o1, o2⟩ := ok1
    exact ⟨e.1.symm, a, b, rfl, by omega, fun _ => ⟨e.2.1.symm, by omega, by omega⟩, fun hn => absurd (by kernel_rfl) hn⟩
  | lay a b =>
    have e := Option.some.inj h
    simp only [Prod.mk.injEq] at e
    exact ⟨e.1.symm, a, b, rfl, by omega, fun hn => absurd hn (of_decide_eq_false (by kernel_rfl)), fun _ => by omega⟩
  | get a b => cases hG
  | getx a b => cases hG
  | pair a b => cases hG
  | _ => cases h
theorem viaM {te : TE} {σ : L2.St} {H : Hp} {Q : VK} {v : V} (h : ∀ Q' : VK, Q' v H → te σ H Q') (q : Q v H) : te σ H Q := h Q q
theorem seq_m {a b : TS} {D : Ends} {σ : L2.St} {H : Hp} (h : a { D with nx := b D } σ H) : tSeq a b D σ H := h
theorem asg_m {te : TE} {g : TG} {D : Ends} {σ : L2.St} {H : Hp} (h : te σ H fun x H1 => g x σ H1 D.nx) : tAsg te g D σ H := h
theorem op_m {r : R2} {ta tb : TE} {σ : L2.St} {H : Hp} {Q : VK} (h : ta σ H fun x H1 => tb σ H1 fun y H2 => r x y H2 Q) : tOp r ta tb σ H Q := h
theorem viaIfM {tt : TT} {A B : TS} {D0 : Ends} {σ : L2.St} {H : Hp} (J : Hp → Prop) (h : ∀ D : Ends, (∀ H', J H' → D.nx σ H') → tIfS tt A B D σ H) (rest : ∀ H', J H' → D0.nx σ H') : tIfS tt A B D0 σ H := h D0 rest
section
variable {P : Program} {w : World} {K : PySem.W.Frag} {mg : Str → Option Value} {base : Heap} {H H' : Hp}
def sp_l_touch (K : PySem.W.Frag) : Sp := fun vs H Q _ => ∃ (sd t : Addr) (k : Ls) (rs : List Addr) (s : HS) (r : Row) (z : Str) (p cl : Int), vs = [.ref sd, .ref t] ∧ LsAt K H sd k rs s ∧ HOk s ∧ SqT K H t r.vs ∧ s.prog[s.S.row.toNat]? = some r ∧ r.word s.S.spent s.S.cells = some (z, p, cl) ∧ s.beats ≤ 1000 ∧
  ∀ H' h q xs, H' sd = some (.dK (lsK { k with half := h })) → H' k.memory = some (.lst ((useW z p cl s.S.cells s.ws).2.1.map V.int)) → H' k.cells = some (.lst ((useW z p cl s.S.cells s.ws).1.map V.int)) → H' k.pairs = some (.lst xs) → (xs.length : Int) ≤ s.beats + 1 →
    H q = none → H' q = some (.tup [.str z, .int (useW z p cl s.S.cells s.ws).2.2.1, .int (useW z p cl s.S.cells s.ws).2.2.2]) → Kept [sd, k.memory, k.cells, k.pairs] H H' → (∀ b, H' b = none → H b = none) → Q (.ref q) H'
end
end SB

set_option Elab.async false
set_option linter.all false
set_option maxRecDepth 100000
set_option maxHeartbeats 2000000
namespace SB
open PySem PySem.Spec PyProof.Rows L2
def onAt (ks : List Wk) (j : Nat) : Bool := match ks[j]? with
  | some k => k.on
  | none => false
def onNums (ks : List Wk) : List Nat := (List.range ks.length).filter (onAt ks)
theorem onAt_lt {ks : List Wk} {j : Nat} (h : onAt ks j = true) : j < ks.length := by
  unfold onAt at h
  cases e : ks[j]? with
  | none => rw [e] at h; cases h
  | some k => exact (List.getElem?_eq_some_iff.mp e).1
theorem mem_onNums {ks : List Wk} {j : Nat} : j ∈ onNums ks ↔ onAt ks j = true := by
  unfold onNums
  rw [List.mem_filter, List.mem_range]
  exact ⟨fun h => h.2, fun h => ⟨onAt_lt h, h⟩⟩
theorem onNums_lt (ks : List Wk) : (onNums ks).Pairwise (· < ·) := List.Pairwise.filter _ List.pairwise_lt_range
theorem onNums_nd (ks : List Wk) : (onNums ks).Nodup := (onNums_lt ks).imp (fun h => Nat.ne_of_lt h)
theorem onNums_len (ks : List Wk) : (onNums ks).length ≤ ks.length := by
  unfold onNums
  refine Nat.le_trans (List.length_filter_le _ _) ?_
  rw [List.length_range]
  exact Nat.le_refl _
theorem rising_eq {xs ys : List Nat} (hx : xs.Pairwise (· < ·)) (hy : ys.Pairwise (· < ·)) (h : ∀ j, j ∈ xs ↔ j ∈ ys) : xs = ys := by
  have nx : xs.Nodup := hx.imp (fun h => Nat.ne_of_lt h)
  have ny : ys.Nodup := hy.imp (fun h => Nat.ne_of_lt h)
  refine List.Perm.eq_of_pairwise (le := fun a b => a < b) (fun a b _ _ h1 h2 => by omega) hx hy ?_
  exact (List.perm_ext_iff_of_nodup nx ny).mpr h
theorem onFrom_nums (i : Nat) (ks : List Wk) : (onFrom i ks).map (·.1) = (onNums ks).map (· + i) := by
  induction ks generalizing i with
  | nil => rfl
  | cons k r ih =>
    have e1 : onNums (k :: r) = (if k.on = true then [0] else []) ++ (onNums r).map (· + 1) := by
      unfold onNums
      rw [List.length_cons, List.range_succ_eq_map, List.filter_cons]
      have e2 : (List.map Nat.succ (List.range r.length)).filter (onAt (k :: r)) = ((List.range r.length).filter (onAt r)).map (· + 1) := by
        rw [List.filter_map]
        rfl
      rw [e2]
      show (if k.on = true then _ else _) = _
      split <;> rfl
    show (if k.on = true then (i, k) :: onFrom (i + 1) r else onFrom (i + 1) r).map (·.1) = _
    rw [e1, List.map_append, List.map_map]
    have e3 : (onFrom (i + 1) r).map (·.1) = (onNums r).map ((· + i) ∘ (· + 1)) := by
      rw [ih (i + 1)]
      refine List.map_congr_left (fun a _ => ?_)
      show a + (i + 1) = a + 1 + i
      omega
    split
    · rw [List.map_cons, e3]
      simp
    · rw [e3]
      simp
def wkAt (ks : List Wk) (j : Nat) : Wk := match ks[j]? with
  | some k => k
  | none => ⟨0, 0, 0, 0, "", none, none, false, 0, none⟩
theorem wkAt_some {ks : List Wk} {j : Nat} {k : Wk} (h : ks[j]? = some k) : wkAt ks j = k := by
  unfold wkAt
  rw [h]
theorem onFrom_wk {ks : List Wk} : onFrom 0 ks = (onNums ks).map fun j => (j, wkAt ks j) := by
  have h := onFrom_nums 0 ks
  have h2 : onFrom 0 ks = (onFrom 0 ks).map fun x => (x.1, wkAt ks x.1) := by
    have : (onFrom 0 ks).map (fun x => (x.1, wkAt ks x.1)) = (onFrom 0 ks).map id := List.map_congr_left (fun x hx => by
      obtain ⟨_, h2, _⟩ := onFrom_mem 0 ks x.1 x.2 hx
      rw [Nat.sub_zero] at h2
      rw [wkAt_some h2]
      rfl)
    rw [this, List.map_id]
  rw [h2]
  have : (onFrom 0 ks).map (fun x => (x.1, wkAt ks x.1)) = ((onFrom 0 ks).map (·.1)).map fun j => (j, wkAt ks j) := by
    rw [List.map_map]
    rfl
  rw [this, h]
  simp
theorem goFrom_nums {ks : List Wk} : goFrom 0 ks = (onNums ks).map fun (j : Nat) => ((j : Int), (wkAt ks j).laid, (wkAt ks j).hand.isSome) := by
  rw [goFrom_on, onFrom_wk, List.map_map]
  rfl
theorem isOn_at {ks : List Wk} {n : Int} : isOn ks n = onAt ks n.toNat := rfl
theorem find_congr {α : Type} {p q : α → Bool} : ∀ {l : List α}, (∀ x ∈ l, p x = q x) → l.find? p = l.find? q
  | [], _ => rfl
  | a :: r, h => by
    rw [List.find?_cons, List.find?_cons, h a (by simp), find_congr (fun x hx => h x (by simp [hx]))]
theorem taker_nums {ks : List Wk} {p : Wk → Bool} (hp : ∀ k, p k = true → k.on = true) : ks.findIdx? p = ((onNums ks).filter fun j => p (wkAt ks j)).head? := by
  rw [List.head?_filter]
  have hfind : (onNums ks).find? (fun j => p (wkAt ks j)) = (List.range ks.length).find? (fun j => p (wkAt ks j)) := by
    unfold onNums
    rw [List.find?_filter]
    refine find_congr (fun j hj => ?_)
    have hj : j < ks.length := List.mem_range.mp hj
    have e : ks[j]? = some ks[j] := List.getElem?_eq_getElem hj
    rw [wkAt_some e]
    unfold onAt
    rw [e]
    cases h : p ks[j] with
    | false => simp
    | true => simp [hp _ h]
  rw [hfind]
  cases h : ks.findIdx? p with
  | none =>
    rw [List.findIdx?_eq_none_iff] at h
    symm
    rw [List.find?_eq_none]
    intro j hj
    have hj : j < ks.length := List.mem_range.mp hj
    have e : ks[j]? = some ks[j] := List.getElem?_eq_getElem hj
    rw [wkAt_some e]
    simp [h ks[j] (List.getElem_mem hj)]
  | some j =>
    rw [List.findIdx?_eq_some_iff_getElem] at h
    obtain ⟨hj, h1, h2⟩ := h
    symm
    rw [List.find?_range_eq_some]
    have e : ks[j]? = some ks[j] := List.getElem?_eq_getElem hj
    refine ⟨?_, List.mem_range.mpr hj, fun i hi => ?_⟩
    · rw [wkAt_some e]; exact h1
    · have hi' : i < ks.length := by omega
      have e' : ks[i]? = some ks[i] := List.getElem?_eq_getElem hi'
      rw [wkAt_some e']
      simpa using h2 i hi
structure LG where
  ev : List Int
  ever : Int
  laid : List (Int × Int × Int × Int)
  firsts : List (Option Int)
  pairs : List (Int × Int × Int × Int × Int)
  half : Int
def LG.start (g : LG) (ks : List Wk) (n : Nat) : LG := match ks[n]? with
  | none => g
  | some k => if k.on = true then g else { g with ev := g.ev.set n g.ever, ever := g.ever + 1 }
def LG.asks (g : LG) (b : Int) (ks : List Wk) : List (Int × Int) → LG
  | [] => g
  | x :: r => if x.1 = b then (g.start ks x.2.toNat).asks b (ks.modify x.2.toNat Wk.start) r else g.asks b ks r
def LG.dev (g : LG) (ks : List Wk) (took wanted : Bool) (ms : List Bool) (ws : List Int) (when : Int) : LG := match ks.findIdx? (takes ms wanted took) with
  | none => g
  | some j => match (wkAt ks j).hand with
    | none => g
    | some _ =>
      let g1 : LG := { g with laid := g.laid ++ [(g.ev.getD j 0, ((wkAt ks j).goal + (wkAt ks j).laid) % ws.length, when, (j : Int))] }
      if (wkAt ks j).laid + 1 < (wkAt ks j).many then g1 else match (wkAt ks j).follow with
        | none => g1
        | some f => g1.start (ks.set j ((wkAt ks j).move ws).1) f.toNat
def LG.touch (g : LG) (r : Row) (S : MS) (ws : List Int) (when : Int) : LG := match r with
  | .get _ _ => { g with half := when }
  | .getx _ _ => { g with half := when }
  | .pair _ a => if S.spent = 1 then { g with half := when, pairs := g.pairs ++ [(S.row, a % ws.length, g.half, (a + 1) % ws.length, when)] } else { g with half := when }
  | _ => g
def LG.eff (g : LG) (ks : List Wk) : Row → LG
  | .ask x => g.start ks x.toNat
  | _ => g
def LG.fin (g : LG) (row when : Int) : LG := match g.firsts[row.toNat]? with
  | some none => { g with firsts := g.firsts.set row.toNat (some when) }
  | _ => g
def LG.mst (g : LG) (prog : List Row) (S : MS) (ks : List Wk) (took : Bool) (ws : List Int) (when : Int) : LG := match prog[S.row.toNat]? with
  | none => g
  | some r => if r.isW = true ∧ took = true then g else
    let g1 := if r.isW = true then g.touch r S ws when else g
    if S.spent + 1 = r.beats then (g1.fin S.row when).eff ks r else g1
def LG.next (s : HS) (g : LG) : LG :=
  ((g.asks s.beats s.ks s.asks).dev (askAll s.beats s.ks s.asks) s.took (wantedOf s.prog s.S).isSome s.S.marks s.ws s.beats).mst s.prog s.S s.dm.1 s.dm.2.1 s.dm.2.2.1 s.beats
def HS.lafter (s : HS) (g : LG) : Nat → LG
  | 0 => g
  | n + 1 => LG.next (s.after n) (s.lafter g n)
def LG.none (n m : Nat) : LG := ⟨List.replicate n 0, 0, [], List.replicate m Option.none, [], 0⟩
end SB

set_option Elab.async false
set_option linter.all false
set_option maxRecDepth 100000
set_option maxHeartbeats 2000000
namespace SB
open PySem PySem.Spec PyProof.Rows L2 LamX
structure Lam1 (z : Str) (params : Arguments) (scope : Scope) : Prop where
  kind : scope.kind = .function
  names : scope.names = [(z, .local)]
  co : scope.isCoroutine = false
  gen : scope.isGenerator = false
  nodbg : (z == ("__debug__" : Str)) = false
  bind : ∀ (fd : FuncData) (v : Value), fd.params = params → fd.defaults = .none → fd.kwdefaults = .none → bindArgs fd ⟨[v], []⟩ = pure [(z, v)]
def Nw (H : Hp) (b : Addr) : Prop := ∀ o, H b = some o → ∃ ps, o = .tbl ps
def tSrtK (K : PySem.W.Frag) (P : Addr) (q fld : Str) (te : TA) : TE := fun σ H Q => te σ H fun vs H1 => ∃ (a : Addr) (ds : List (Addr × Int)), vs = [.ref a] ∧ SqL K H1 a (ds.map fun d => V.ref d.1) ∧ (∀ d ∈ ds, ∃ kvs, H1 d.1 = some (.dK kvs) ∧ valV kvs (.inr fld) = some (.int d.2)) ∧ TabS H1 P q ∧
  ∀ (H2 : Hp) (p : Addr) (ds' : List (Addr × Int)), ds'.Perm ds → ds'.Pairwise (fun x y => x.2 ≤ y.2) → ExtN H1 H2 → TabS H2 P q → Nw H1 p → H2 p = some (.lst (ds'.map fun d => V.ref d.1)) → Q (.ref p) H2
theorem vals_refs : ∀ {ds : List (Addr × Int)} {its : List Value}, Vals (ds.map fun d => V.ref d.1) its → PySem.W.EachIs (fun (v : Value) (x : Addr × Int) => v = .ref x.1) its ds
  | [], _, .nil => .nil
  | d :: r, _, .cons h t => .cons h (vals_refs t)
theorem refs_vals : ∀ {ds : List (Addr × Int)} {its : List Value}, PySem.W.EachIs (fun (v : Value) (x : Addr × Int) => v = .ref x.1) its ds → Vals (ds.map fun d => V.ref d.1) its
  | [], _, .nil => .nil
  | d :: r, _, .cons h t => .cons h (refs_vals t)
section
variable {X : Cx} {pins : List (Addr × Obj)} {σ : L2.St} {H : Hp} {s : Shared}
theorem lam_call {A : Around} {E : Value → Shared → Prop} {f c' d : Addr} {n : Int} {q z fld : Str} {params : Arguments} {scope : Scope} {cl : List (Str × Addr)} {pm ctv : Value} {pz ps pc : Pos} {j : Nat} {kvs : List (Key × V)} (I : Inv X pins σ H s) (L : Lam1 z params scope)
    (hf : s.heap.get? f = some (PySem.W.kla_obj "<lambda>" q params (.Subscript (.Name z pz) (.Constant (.str fld) j pc) ps) scope cl pm c' ctv)) (hc : H c' = some (CodeO c' q)) (hd : A.depth < recursionLimit) (he : H d = some (.dK kvs)) (hv : valV kvs (.inr fld) = some (.int n)) :
    wpAny (model X.prog X.w) A (call (.ref f) [.ref d]) (PySem.W.KeyPure (.int n) s) E s := by
  refine wpAny_call ?_
  obtain ⟨⟨oc, vs, t, hoc, hdc, hvc⟩, _, _⟩ := I.hok c' _ hc
  refine PySem.W.kla_callFunE hd hf rfl L.co L.gen rfl ⟨c', oc, vs, t, rfl, hoc, hdc, hvc⟩ ?_
  rw [L.bind _ _ rfl rfl rfl]
  refine wpAny_pure (wpAny_newFunctionEnv (fun y hy => ?_) (fun y hy => ?_) (fun h₁ hns hsb => ?_) L.kind)
  · have hy : y ∈ scope.names := hy
    rw [L.names] at hy
    have e : y = (z, NameKind.local) := by simpa using hy
    rw [e]
    intro zz
    cases zz
  · have e : y = (z, Value.ref d) := by simpa using hy
    rw [e]
    show scope.names.lookup z = _
    rw [L.names]
    simp [List.lookup]
  · have kp : ∀ b o, s.heap.get? b = some o → h₁.get? b = some o := fun b o e => hsb.extBut b o (Nat.ne_of_lt (Heap.lt_size e)) (Heap.get?_push_of_some _ e)
    have I1 : Inv X pins σ H { s with heap := h₁, toks := s.toks + [(z, Value.ref d)].length } := I.kept kp
    refine ⟨I1.nolimit, PySem.W.kla_codeExpr ?_⟩
    refine subD_of PySem.F.slot_dict_getitem.lookup (fun _ _ => rfl) (wpAny_Name (wpAny_loadName_local (m := fun x => [(z, Value.ref d)].reverse.lookup x) (v := .ref d) L.kind ?_ hns ?_ ?_) L.nodbg)
    · show scope.names.lookup z = _
      rw [L.names]
      simp [List.lookup]
    · simp [List.lookup]
    · refine Calls.Constant_str ?_
      have I2 := I1.tok (s.toks + [(z, Value.ref d)].length + 1)
      obtain ⟨_, _, us, rel, dd⟩ := dk_rd I2.hok (.inl he)
      obtain ⟨w', hw, rw'⟩ := RelO.some_of (v := .int n) (o := valueAt us (.inr fld)) (by rw [← hv]; exact rel.val _)
      obtain ⟨tk, rfl⟩ := rw'
      refine ⟨dd.typeIs, wpAny_getItem_of (kV_is (k := .inr fld) ⟨_, rfl⟩) dd.mapOf hw ?_⟩
      exact ⟨h₁, _, rfl, kp, .int n tk⟩
theorem pe_sortedLam {P c : Addr} {e : Expr} {te : TA} {z fld : Str} {params : Arguments} {scope : Scope} {p pz ps pc pl kp pos : Pos} {j k : Nat} (L : Lam1 z params scope) (TB : TabB X.base X.mg c P) (hcode : X.env.code = .ref c) (hr : Room (k + 2) X.A)
    (hg : Gl X "sorted") (hm : X.mg "sorted" = none) (ha : PA X [e] te) (hdef : defaultsOf params X.env = ([], []) := by rfl)
    (he : backTo pos (starEach [e] X.env) = (false, eval e X.env) :: backTo pos (starEach [] X.env) := by rfl) (hpl : (backTo pos (starEach [e] X.env)).any (·.1) = false := by rfl) :
    PE X (.Call (.Name "sorted" p) [e] [⟨some "key", .Lambda params (.Subscript (.Name z pz) (.Constant (.str fld) j pc) ps) scope pl, kp⟩] pos) (tSrtK X.K P (X.env.qual ++ "<lambda>") fld te) := by
  refine ⟨fun pins s σ H Q I h => ?_⟩
  refine wpAny_Call_Name_kw (ld_blt I hg hm (u := .builtin "sorted") (by decide +kernel) ?_ (by decide) (by decide))
  refine PyProof.Rows.callWith_kw (thn (ha.run pos pins s σ H _ I h) fun us s1 ⟨vs, H1, I1, r1, q1⟩ => ?_) he hpl (by rfl) (by rfl)
  obtain ⟨a, ds, rfl, hs, hds, hT, q⟩ := q1
  obtain rfl := Vals.ref1 r1
  show wpAny _ _ (evalAll ((do let v ← eval (.Lambda params (.Subscript (.Name z pz) (.Constant (.str fld) j pc) ps) scope pl) X.env; standAt pos; pure v) :: [])) _ _ s1
  refine wpAny_evalAll_cons (wpAny_bind ?_)
  refine lam_make2 (T := [(P, X.env.qual ++ "<lambda>")]) I1 TB hcode (by simp) (fun p hp _ => by
    have e : p = (P, X.env.qual ++ "<lambda>") := by simpa using hp
    rw [e]) (fun p hp => by
    have e : p = (P, X.env.qual ++ "<lambda>") := by simpa using hp
    rw [e]
    exact hT) hdef (fun y hy hfree => ?_) (fun f c' pm ctv H2 s2 I2 ext T2 hf nf _ hc => ?_)
  · rw [L.names] at hy
    have e : y = (z, NameKind.local) := by simpa using hy
    rw [e] at hfree
    cases hfree
  refine wpAny_bind (wpAny_standAt (wpAny_pure ?_))
  refine wpAny_evalAll_nil ?_
  show wpAny _ _ (call (.builtin "sorted") [.ref a] [(("key" : Str), .ref f)]) _ _ s2
  have hs2 : SqL X.K H2 a (ds.map fun d => V.ref d.1) := by
    rcases hs with (hs | ⟨o, hs⟩) | hs
    · exact .inl (.inl (ext _ _ hs (fun ps z => by cases z)))
    · exact .inl (.inr ⟨o, ext _ _ hs (fun ps z => by cases z)⟩)
    · exact .inr hs
  obtain ⟨its, rv, hl, hz⟩ := I2.list hs2
  rw [List.length_map] at hz
  refine PySem.W.sorted_key_data (R := fun (v : Value) (x : Addr × Int) => v = .ref x.1) (bs := ds) (vs := its) (f := .ref f) (b := false) (fun x => .int x.2) hl.isList (vals_refs rv) ?_ ?_ hz ?_ (PyProof.Rows.ksk_s1 _ _) (fun _ => PyProof.Rows.ksk_l1 _ _) (fun x => PyProof.Rows.ksk_t1 f x) ?_ ?_
  · intro d hd d' hd'
    obtain ⟨x, _, rfl⟩ := List.mem_map.mp hd
    obtain ⟨x', _, rfl⟩ := List.mem_map.mp hd'
    rfl
  · refine .inr fun d hd => ?_
    obtain ⟨x, _, rfl⟩ := List.mem_map.mp hd
    exact ⟨(fun z => by cases z), (fun xs z => by cases z)⟩
  · intro x hx
    have := hr.un
    show X.A.units + 2 + (PyData.int x.2).depth < cLine
    have e : (PyData.int x.2).depth = 0 ∨ (PyData.int x.2).depth = 1 := by first | exact .inl rfl | exact .inr rfl
    omega
  · intro v x ev hx h tk kp
    subst ev
    obtain ⟨kvs, hk, hv⟩ := hds x hx
    have I3 : Inv X pins σ H2 { s2 with heap := h, toks := tk } := I2.kept kp
    exact lam_call I3 L (kp _ _ hf) hc (by have := hr.in1.in1.depth; exact this) (ext _ _ hk (fun ps z => by cases z)) hv
  · intro out cc h' tk kp fresh hat hlen hE
    rw [PySem.W.dataLe_int] at hE
    have hperm : (ds.mergeSort fun a b => decide (a.2 ≤ b.2)).Perm ds := List.mergeSort_perm _ _
    have hpw : (ds.mergeSort fun a b => decide (a.2 ≤ b.2)).Pairwise (fun x y => x.2 ≤ y.2) := by
      have := List.pairwise_mergeSort (le := fun (a b : Addr × Int) => decide (a.2 ≤ b.2)) (fun a b c h1 h2 => by
        have h1 := of_decide_eq_true h1
        have h2 := of_decide_eq_true h2
        exact decide_eq_true (Int.le_trans h1 h2)) (fun a b => by
        by_cases h : a.2 ≤ b.2
        · simp [h]
        · have : b.2 ≤ a.2 := by omega
          simp [this]) ds
      exact this.imp (fun h => of_decide_eq_true h)
    have nL : H2 (s2.heap.objs.size + 1) = none := I2.hok.fresh (Nat.le_succ _)
    refine ⟨.ref _, upd H2 (s2.heap.objs.size + 1) (.lst ((ds.mergeSort fun a b => decide (a.2 ≤ b.2)).map fun d => V.ref d.1)), I2.laid (t' := tk) kp (Nat.le_succ _) ⟨?_, out, cc, refs_vals hE, hat⟩, rfl, q _ _ _ hperm hpw ?_ ?_ ?_ upd_same⟩
    · rw [List.length_map, hperm.length_eq]
      exact hz
    · exact fun b o e n => by
        have := ext b o e n
        rw [upd_ne (ne_of_none this nL)]
        exact this
    · refine (T2 (P, X.env.qual ++ "<lambda>") (by simp)).ext fun b o e => ?_
      rw [upd_ne (ne_of_none e nL)]
      exact e
    · intro o e
      cases o with
      | tbl ps => exact ⟨ps, rfl⟩
      | _ => rw [ext _ _ e (fun ps z => by cases z)] at nL; cases nL
end
end SB

set_option Elab.async false
set_option linter.all false
set_option maxRecDepth 100000
set_option maxHeartbeats 2000000
namespace SB
open PySem PySem.Spec PyProof.Rows L2
def rEqNil (K : PySem.W.Frag) : R2 := fun x y H Q => ∃ (a b : Addr) (xs : List V), x = .ref a ∧ SqL K H a xs ∧ y = .ref b ∧ SqL K H b [] ∧ Q (.bl xs.isEmpty) H
def rNeNil (K : PySem.W.Frag) : R2 := fun x y H Q => ∃ (a b : Addr) (xs : List V), x = .ref a ∧ SqL K H a xs ∧ y = .ref b ∧ SqL K H b [] ∧ Q (.bl (!xs.isEmpty)) H
section
variable {X : Cx}
theorem op_eqNil (hu : X.A.units + 64 < cLine) : OpR X (compareOp .Eq) (rEqNil X.K) := by
  intro pins s σ H x y v u Q I rx ry h
  obtain ⟨a, b, xs, rfl, ha, rfl, hb, q⟩ := h
  obtain rfl : v = Value.ref a := rx
  obtain rfl : u = Value.ref b := ry
  obtain ⟨its, rv, hl, hz⟩ := I.list ha
  obtain ⟨its2, rv2, hl2, hz2⟩ := I.list hb
  have e2 : its2 = [] := by cases rv2; rfl
  subst e2
  have hlen : xs.length = its.length := rv.length
  cases xs with
  | nil =>
    have e1 : its = [] := by cases rv; rfl
    subst e1
    exact (SeqAt.RcAt.lists (e := fun _ => true) hl.isList hl2.isList rfl (by omega) (fun j h1 h2 => by simp at h1)) X.prog X.w _ _ ⟨.bl _, H, I, rfl, q⟩
  | cons x r =>
    exact (SeqAt.RcAt.lists_lengths hl.isList hl2.isList (by rw [List.size_toArray, ← hlen]; simp) (by omega)) X.prog X.w _ _ ⟨.bl _, H, I, rfl, q⟩
theorem op_neNil (hu : X.A.units + 64 < cLine) : OpR X (compareOp .NotEq) (rNeNil X.K) := by
  intro pins s σ H x y v u Q I rx ry h
  obtain ⟨a, b, xs, rfl, ha, rfl, hb, q⟩ := h
  obtain rfl : v = Value.ref a := rx
  obtain rfl : u = Value.ref b := ry
  obtain ⟨its, rv, hl, hz⟩ := I.list ha
  obtain ⟨its2, rv2, hl2, hz2⟩ := I.list hb
  have e2 : its2 = [] := by cases rv2; rfl
  subst e2
  have hlen : xs.length = its.length := rv.length
  cases xs with
  | nil =>
    have e1 : its = [] := by cases rv; rfl
    subst e1
    exact (SeqAt.RcNeAt.lists (e := fun _ => true) hl.isList hl2.isList rfl (by omega) (fun j h1 h2 => by simp at h1)) X.prog X.w _ _ ⟨.bl _, H, I, rfl, q⟩
  | cons x r =>
    exact (SeqAt.RcNeAt.lists_lengths hl.isList hl2.isList (by rw [List.size_toArray, ← hlen]; simp) (by omega)) X.prog X.w _ _ ⟨.bl _, H, I, rfl, q⟩
end
end SB

set_option Elab.async false
set_option linter.all false
set_option maxRecDepth 100000
set_option maxHeartbeats 2000000
namespace SB
open PySem PySem.Spec PyProof.Rows L2 LamX
def NT (o : HO) : Prop := ∀ ps, o ≠ .tbl ps
def plainO : HO → Bool
  | .tbl _ => false | .ext _ => false | _ => true
theorem nt_or (o : HO) : NT o ∨ ∃ ps, o = .tbl ps := by
  cases o <;> first | exact .inr ⟨_, rfl⟩ | exact .inl (fun ps z => by cases z)
theorem plain_nt {o : HO} (h : plainO o = true) : NT o := fun ps z => by rw [z] at h; cases h
structure StT (F : List Addr) (H : Hp) (F' : List Addr) (H' : Hp) : Prop where
  kp : ∀ b o, H b = some o → b ∉ F → NT o → H' b = some o
  gr : ∀ b ∈ F', b ∈ F ∨ Nw H b
  fr : ∀ b o, H b = some o → NT o → ∃ o', H' b = some o' ∧ NT o'
section
variable {F F1 F2 G G' : List Addr} {H H1 H2 H' : Hp} {p b : Addr} {o : HO}
theorem Nw.none (h : H b = none) : Nw H b := fun o e => by rw [h] at e; cases e
theorem StT.refl (F : List Addr) (H : Hp) : StT F H F H := ⟨fun _ _ h _ _ => h, fun b h => .inl h, fun b o h n => ⟨o, h, n⟩⟩
theorem StT.nw (a : StT F H F1 H1) (h : Nw H1 b) : Nw H b := fun o e => by
  rcases nt_or o with n | n
  · obtain ⟨o', e', n'⟩ := a.fr b o e n
    obtain ⟨ps, z⟩ := h o' e'
    exact absurd z (n' ps)
  · exact n
theorem StT.trans (a : StT F H F1 H1) (c : StT F1 H1 F2 H2) : StT F H F2 H2 := by
  refine ⟨fun b o e n nt => c.kp b o (a.kp b o e n nt) (fun z => ?_) nt, fun b hb => ?_, fun b o e nt => ?_⟩
  · rcases a.gr b z with z | z
    · exact n z
    · obtain ⟨ps, e'⟩ := z o e
      exact nt ps e'
  · rcases c.gr b hb with z | z
    · exact a.gr b z
    · exact .inr (a.nw z)
  · obtain ⟨o', e', n'⟩ := a.fr b o e nt
    exact c.fr b o' e' n'
theorem StT.same (s : Same H H') : StT F H F H' := ⟨fun b o e _ _ => s _ _ e, fun b h => .inl h, fun b o e n => ⟨o, s _ _ e, n⟩⟩
theorem StT.ext (s : ExtN H H') : StT F H F H' := ⟨fun b o e _ n => s _ _ e n, fun b h => .inl h, fun b o e n => ⟨o, s _ _ e n, n⟩⟩
theorem StT.put (h : p ∈ F) (n : NT o) : StT F H F (upd H p o) := by
  refine ⟨fun b u e nb nt => ?_, fun b hb => .inl hb, fun b u e nt => ?_⟩
  · rw [upd_ne (fun z => nb (by rw [z]; exact h))]; exact e
  · by_cases hb : b = p
    · rw [hb]; exact ⟨o, upd_same, n⟩
    · exact ⟨u, by rw [upd_ne hb]; exact e, nt⟩
theorem StT.mono (a : StT F H F1 H1) (h : ∀ x ∈ F, x ∈ G) (h' : ∀ x ∈ G', x ∈ F1 ∨ x ∈ G ∨ Nw H x) : StT G H G' H1 := by
  refine ⟨fun b o e n nt => a.kp b o e (fun z => n (h b z)) nt, fun b hb => ?_, a.fr⟩
  rcases h' b hb with z | z | z
  · rcases a.gr b z with z | z
    · exact .inl (h b z)
    · exact .inr z
  · exact .inl z
  · exact .inr z
theorem TabS.put' {P x : Addr} {q : Str} {o0 : HO} (t : TabS H P q) (hx : H x = some o0) (pl : plainO o0 = true) : TabS (upd H x o) P q := by
  obtain ⟨ps, h1, h2, h3⟩ := t
  have ne1 : P ≠ x := fun z => by rw [z, hx] at h1; cases h1; cases pl
  refine ⟨ps, by rw [upd_ne ne1]; exact h1, h2, fun pos cv hc => ?_⟩
  obtain ⟨c, e1, e2⟩ := h3 pos cv hc
  have ne2 : c ≠ x := fun z => by
    rw [z, hx] at e2
    unfold CodeO at e2
    cases e2
    cases pl
  exact ⟨c, e1, by rw [upd_ne ne2]; exact e2⟩
theorem TabS.keep {P : Addr} {q : Str} (t : TabS H P q) (kp : Kept F H H') (hn : ∀ b ∈ F, ∃ u, H b = some u ∧ plainO u = true) : TabS H' P q := by
  obtain ⟨ps, h1, h2, h3⟩ := t
  have out : ∀ {b : Addr} {o : HO}, H b = some o → plainO o = false → H' b = some o := fun {b o} e pl => kp _ _ e (fun z => by
    obtain ⟨u, hu, pu⟩ := hn _ z
    rw [e] at hu
    cases hu
    rw [pl] at pu
    cases pu)
  refine ⟨ps, out h1 rfl, h2, fun pos cv hc => ?_⟩
  obtain ⟨c, e1, e2⟩ := h3 pos cv hc
  exact ⟨c, e1, out e2 rfl⟩
end
structure At (H : Hp) (xs : List (Addr × HO)) : Prop where
  at_ : ∀ y ∈ xs, H y.1 = some y.2
  nd : (xs.map (·.1)).Nodup
section
variable {H H' : Hp} {xs : List (Addr × HO)} {a : Addr} {o o' : HO}
theorem set_map1 {i : Nat} (e : xs[i]? = some (a, o)) : (xs.set i (a, o')).map (·.1) = xs.map (·.1) := by
  rw [List.map_set]
  show (xs.map (·.1)).set i a = _
  refine set_same ?_
  rw [List.getElem?_map, e]
  rfl
theorem At.put (h : At H xs) (i : Nat) (e : xs[i]? = some (a, o)) : At (upd H a o') (xs.set i (a, o')) := by
  refine ⟨fun y hy => ?_, by rw [set_map1 e]; exact h.nd⟩
  obtain ⟨j, hj⟩ := List.getElem?_of_mem hy
  rw [List.getElem?_set] at hj
  split at hj
  · split at hj
    · cases hj; exact upd_same
    · cases hj
  · rename_i hij
    have hy2 := List.mem_of_getElem? hj
    rw [upd_ne (fun z => ?_)]
    · exact h.at_ y hy2
    · have n1 : (xs.map (·.1))[i]? = some a := by rw [List.getElem?_map, e]; rfl
      have n2 : (xs.map (·.1))[j]? = some a := by rw [List.getElem?_map, hj, ← z]; rfl
      exact hij ((List.getElem?_inj (List.getElem?_eq_some_iff.mp n1).1 h.nd).mp (n1.trans n2.symm))
theorem At.same (h : At H xs) (s : Same H H') : At H' xs := ⟨fun y hy => s _ _ (h.at_ y hy), h.nd⟩
theorem At.get (h : At H xs) (i : Nat) (e : xs[i]? = some (a, o)) : H a = some o := h.at_ (a, o) (List.mem_of_getElem? e)
end
structure One where
  work : Int
  moved : Int
  hand : Option Int
  ever : Int
def oneK (x : One) : List (Key × V) := [(.inr "work", .int x.work), (.inr "moved", .int x.moved), (.inr "hand", oV x.hand), (.inr "ever", .int x.ever)]
theorem one_work (x : One) : valV (oneK x) (.inr ("work" : Str)) = some (V.int x.work) := by kernel_rfl
theorem one_moved (x : One) : valV (oneK x) (.inr ("moved" : Str)) = some (V.int x.moved) := by kernel_rfl
theorem one_hand (x : One) : valV (oneK x) (.inr ("hand" : Str)) = some (oV x.hand) := by kernel_rfl
theorem one_ever (x : One) : valV (oneK x) (.inr ("ever" : Str)) = some (V.int x.ever) := by kernel_rfl
theorem one_put_moved (x : One) (n : Int) : putK (oneK x) (.inr ("moved" : Str)) (V.int n) = oneK { x with moved := n } := by kernel_rfl
theorem one_put_handI (x : One) (n : Int) : putK (oneK x) (.inr ("hand" : Str)) (V.int n) = oneK { x with hand := some n } := by kernel_rfl
theorem one_put_handN (x : One) : putK (oneK x) (.inr ("hand" : Str)) V.non = oneK { x with hand := none } := by kernel_rfl
theorem one_made (n e : Int) : mergeK [] [((.inr ("work" : Str) : Key), V.int n), ((.inr ("moved" : Str) : Key), V.int 0), ((.inr ("hand" : Str) : Key), V.non), ((.inr ("ever" : Str) : Key), V.int e)] = oneK ⟨n, 0, none, e⟩ := by kernel_rfl
theorem one_len (x : One) : (oneK x).length = 4 := rfl
def oneAt (ks : List Wk) (ev : List Int) (j : Nat) : One := ⟨j, (wkAt ks j).laid, (wkAt ks j).hand, ev.getD j 0⟩
structure LA where
  rs : List Addr
  ts : List Addr
  qs : List Addr
  os : List (Addr × Nat)
  lp : List Addr
  pp : List Addr
def l4V (x : Int × Int × Int × Int) : List V := [.int x.1, .int x.2.1, .int x.2.2.1, .int x.2.2.2]
def p5V (x : Int × Int × Int × Int × Int) : List V := [.int x.1, .int x.2.1, .int x.2.2.1, .int x.2.2.2.1, .int x.2.2.2.2]
def Ls.ft (sd : Addr) (k : Ls) (a : LA) : List Addr := [sd, k.memory, k.cells, k.marks, k.firsts, k.pairs, k.laid, k.on, k.asks, k.works] ++ a.os.map (·.1)
def lsCs (sd : Addr) (k : Ls) (a : LA) (s : HS) (g : LG) : List (Addr × HO) :=
  [(sd, .dK (lsK k)), (k.memory, .lst (s.ws.map V.int)), (k.cells, .lst (s.S.cells.map V.int)), (k.marks, .lst (s.S.marks.map V.bl)), (k.firsts, .lst (g.firsts.map oV)), (k.pairs, .lst (a.pp.map V.ref)), (k.laid, .lst (a.lp.map V.ref)), (k.on, .lst (a.os.map fun x => V.ref x.1)), (k.asks, .lst (a.qs.map V.ref)), (k.works, .lst (a.ts.map V.ref))] ++ a.os.map fun x => (x.1, .dK (oneK (oneAt s.ks g.ev x.2)))
theorem lsCs_ft (sd : Addr) (k : Ls) (a : LA) (s : HS) (g : LG) : (lsCs sd k a s g).map (·.1) = Ls.ft sd k a := by
  unfold lsCs Ls.ft
  rw [List.map_append, List.map_map]
  rfl
structure TupsT (H : Hp) (ps : List Addr) (vss : List (List V)) : Prop where
  len : ps.length = vss.length
  at_ : ∀ (j : Nat) (p : Addr) (vs : List V), ps[j]? = some p → vss[j]? = some vs → H p = some (.tup vs)
def TuK (H H' : Hp) : Prop := ∀ b o, H b = some o → notTup o = false → H' b = some o
section
variable {K : PySem.W.Frag} {H H' H2 : Hp} {ps : List Addr} {vss : List (List V)}
theorem TuK.refl (H : Hp) : TuK H H := fun _ _ h _ => h
theorem TuK.trans (a : TuK H H') (b : TuK H' H2) : TuK H H2 := fun c o h n => b c o (a c o h n) n
theorem TuK.same (s : Same H H') : TuK H H' := fun b o h _ => s b o h
theorem TuK.ext (s : ExtN H H') : TuK H H' := fun b o h n => s b o h (fun ps z => by rw [z] at n; cases n)
theorem TuK.put {x : Addr} {o o0 : HO} (hx : H x = some o0) (n : notTup o0 = true) : TuK H (upd H x o) := fun b u e nu => by
  rw [upd_ne (fun z => by rw [z, hx] at e; cases e; rw [nu] at n; cases n)]
  exact e
theorem TuK.new {x : Addr} {o : HO} (hx : H x = none) : TuK H (upd H x o) := TuK.same (Same.new (Same.refl _) hx)
theorem TuK.tup (t : TuK H H') {a : Addr} {xs : List V} (h : SqT K H a xs) : SqT K H' a xs := by
  rcases h with (h | ⟨o, h⟩) | h
  · exact .inl (.inl (t _ _ h rfl))
  · exact .inl (.inr ⟨o, t _ _ h rfl⟩)
  · exact .inr h
theorem TuK.tk (t : TuK H H') : Tk H H' := fun b vs h => t _ _ h rfl
theorem TuK.prog (t : TuK H H') {pa : Addr} {rs : List Addr} {prog : List Row} (h : ProgAt K H pa rs prog) : ProgAt K H' pa rs prog := ⟨t.tup h.tup, h.len, fun j x r e1 e2 => t.tup (h.at_ j x r e1 e2)⟩
theorem TupsT.keep (h : TupsT H ps vss) (t : TuK H H') : TupsT H' ps vss := ⟨h.len, fun j p vs e1 e2 => t _ _ (h.at_ j p vs e1 e2) rfl⟩
theorem TupsT.at (h : TupsT H ps vss) {D : Addr} (hD : H D = some (.lst (ps.map V.ref))) : TupsAt H D ps vss := ⟨hD, h.len, h.at_⟩
theorem TupsAt.tt {D : Addr} (h : TupsAt H D ps vss) : TupsT H ps vss := ⟨h.len, h.at_⟩
theorem TupsT.snoc (h : TupsT H ps vss) (t : TuK H H') {p : Addr} {vs : List V} (hp : H' p = some (.tup vs)) : TupsT H' (ps ++ [p]) (vss ++ [vs]) := by
  refine ⟨by simp [h.len], fun j q us e1 e2 => ?_⟩
  by_cases hj : j < ps.length
  · rw [List.getElem?_append_left hj] at e1
    rw [List.getElem?_append_left (by rw [← h.len]; exact hj)] at e2
    exact t _ _ (h.at_ j q us e1 e2) rfl
  · have ej : j = ps.length := by
      have := (List.getElem?_eq_some_iff.mp e1).1
      rw [List.length_append] at this
      simp at this
      omega
    subst ej
    rw [List.getElem?_append_right (Nat.le_refl _), Nat.sub_self] at e1
    rw [List.getElem?_append_right (by rw [h.len]; exact Nat.le_refl _), h.len, Nat.sub_self] at e2
    have e5 : p = q := by simpa using e1
    have e6 : vs = us := by simpa using e2
    subst e5 e6
    exact hp
end
def tS (K : PySem.W.Frag) : Addr := (He.cT K ("_law_start", none)).2
def cS (K : PySem.W.Frag) : Addr := (He.cT K ("_law_start", none)).1
section
variable {K : PySem.W.Frag} {H H' : Hp} {sd : Addr} {k k' : Ls} {a : LA} {s s' : HS} {g g' : LG}
theorem lsCs_kind {y : Addr × HO} (hy : y ∈ lsCs sd k a s g) : notTup y.2 = true ∧ plainO y.2 = true := by
  rcases List.mem_append.mp hy with hy | hy
  · simp only [List.mem_cons, List.not_mem_nil, or_false] at hy
    rcases hy with rfl | rfl | rfl | rfl | rfl | rfl | rfl | rfl | rfl | rfl <;> exact ⟨rfl, rfl⟩
  · obtain ⟨x, _, rfl⟩ := List.mem_map.mp hy
    exact ⟨rfl, rfl⟩
def Ls.sa (k k' : Ls) : Prop := k'.program = k.program ∧ k'.works = k.works ∧ k'.memory = k.memory ∧ k'.asks = k.asks ∧ k'.cells = k.cells ∧ k'.marks = k.marks ∧ k'.on = k.on ∧ k'.firsts = k.firsts ∧ k'.pairs = k.pairs ∧ k'.laid = k.laid
theorem Ls.sa.ft (h : Ls.sa k k') : Ls.ft sd k' a = Ls.ft sd k a := by
  obtain ⟨h1, h2, h3, h4, h5, h6, h7, h8, h9, h10⟩ := h
  unfold Ls.ft
  rw [h2, h3, h4, h5, h6, h7, h8, h9, h10]
theorem nt_dK {x : List (Key × V)} : NT (.dK x) := fun ps z => by cases z
theorem nt_lst {x : List V} : NT (.lst x) := fun ps z => by cases z
theorem nt_tup {x : List V} : NT (.tup x) := fun ps z => by cases z
end
end SB

set_option Elab.async false
set_option linter.all false
set_option maxRecDepth 100000
set_option maxHeartbeats 2000000
namespace SB
open PySem PySem.Spec PyProof.Rows L2 LamX StX
theorem FunD.rC {P : Program} {w : World} {K : PySem.W.Frag} {mg : Str → Option Value} {base : Heap} {x qual : Str} {params : Arguments} {body : List Stmt} {scope : Scope} {f : Addr} {fd : FuncData} {N ps : List Str} {k : Nat} {sp : Sp} {p : He.Defn} (F : FunD K x qual params body scope [] [] f fd) (hf : f = He.fAd K p) (S : FnScope N ps scope)
    (hb : ∀ (kV doc pm : Value) (an : Option Addr) (cdv ct : Value) (us : List Value), us.length = ps.length → bindArgs (PySem.W.fnOf x qual params body scope .none kV doc pm an cdv ct) ⟨us, []⟩ = pure (ps.zip us))
    (len : ∀ vs H Q E, sp vs H Q E → vs.length = ps.length)
    (hbody : ∀ (A : Around) (outer : List Env) (s : Shared) (H : Hp) (vs : List V) (Q : VK) (E : XK), Room k (A.deeper (envOfC qual scope s.heap.objs.size f (.ref (He.codeOf K p)))) → sp vs H Q E →
      ∃ t, PSs (cxOf CX0 P w K mg base N qual scope f (.ref (He.codeOf K p)) A outer s H E).nox body t ∧ t { nx := fun _ H' => Q .non H', rt := Q } (start N vs) H) : FnR P w K mg base CX0 (k + 1) f sp := by
  have key : FnOk P w K mg base CX0 (k + 1) f fd ps sp := by
    obtain ⟨oc, od, dV, kV, doc, pm, an, cdv, ct, osl, e, lk, hcd, _, _⟩ := F.ex
    subst e
    obtain ⟨c, rfl⟩ := He.codeIn_ref hcd
    have ec : He.codeOf K p = c := He.codeOf_eq (by rw [← hf]; exact lk) rfl
    refine fn_of lk hcd S len fun A outer s H vs Q E hr hsp => ?_
    rw [← ec] at hr ⊢
    obtain ⟨t, h1, h2⟩ := hbody A outer s H vs Q E hr hsp
    exact ⟨t, h1.nox, h2⟩
  exact (key.raw (F.bindsN hb) .nil).imp (fun vs H Q E h => by rw [List.append_nil]; exact h)
theorem nums_start {ks : List Wk} {n : Nat} {k : Wk} (hk : ks[n]? = some k) (off : k.on = false) : ∀ j, j ∈ onNums (ks.modify n Wk.start) ↔ j ∈ onNums ks ∨ j = n := fun j => by
  rw [mem_onNums, mem_onNums, modify_set hk]
  unfold onAt
  by_cases e : j = n
  · subst e
    rw [gset_self hk]
    simp [Wk.start, off]
  · rw [gset_ne e]
    simp [e]
theorem start_onW {k : Wk} (h : k.on = true) : k.start = k := by
  unfold Wk.start
  rw [if_pos h]
theorem modify_on {ks : List Wk} {n : Nat} {k : Wk} (hk : ks[n]? = some k) (on : k.on = true) : ks.modify n Wk.start = ks := by
  rw [modify_set hk, start_onW on]
  exact set_same hk
theorem wkAt_start {ks : List Wk} {n : Nat} {k : Wk} (hk : ks[n]? = some k) (off : k.on = false) : wkAt (ks.modify n Wk.start) n = { k with on := true, laid := 0 } := by
  refine wkAt_some ?_
  rw [modify_set hk, gset_self hk]
  unfold Wk.start
  rw [if_neg (by rw [off]; decide)]
theorem wkAt_start_ne {ks : List Wk} {n j : Nat} {f : Wk → Wk} (h : j ≠ n) : wkAt (ks.modify n f) j = wkAt ks j := by
  unfold wkAt
  rw [List.getElem?_modify]
  cases ks[j]? with
  | none => rfl
  | some k =>
    show (if n = j then f k else k) = k
    rw [if_neg (fun z => h z.symm)]
section
variable {P : Program} {w : World} {K : PySem.W.Frag} {mg : Str → Option Value} {base : Heap} {H H' : Hp}
variable {sd : Addr} {k : Ls} {a : LA} {s : HS} {g : LG}
theorem vs_start {k : Wk} : k.start.vs = k.vs := by
  unfold Wk.start
  split <;> rfl
theorem map_modify_vs : ∀ {ks : List Wk} {n : Nat}, (ks.modify n Wk.start).map Wk.vs = ks.map Wk.vs
  | [], n => by cases n <;> rfl
  | k :: r, 0 => by show k.start.vs :: _ = _; rw [vs_start]; rfl
  | k :: r, n + 1 => by show k.vs :: (r.modify n Wk.start).map Wk.vs = _; rw [map_modify_vs (n := n)]; rfl
end
end SB

set_option Elab.async false
set_option linter.all false
set_option maxRecDepth 100000
set_option maxHeartbeats 2000000
namespace SB
open PySem PySem.Spec PyProof.Rows L2 LamX StX
theorem wanted_isW {prog : List Row} {S : MS} : (wantedOf prog S).isSome = (match prog[S.row.toNat]? with | some r => r.isW | none => false) := by
  unfold wantedOf
  cases prog[S.row.toNat]? with
  | none => rfl
  | some r => exact isW_word _ _
theorem viaTest' {tt : TT} {A B : TS} {D : Ends} {σ : L2.St} {H : Hp} {c : Bool} (h : ∀ Q : Bool → Hp → Prop, Q c H → tt σ H Q) (rest : if c = true then A D σ H else B D σ H) : tIfS tt A B D σ H := h _ rest
theorem og_work {H : Hp} {d : Addr} {X : One} (h : H d = some (.dK (oneK X))) : DGet H d (.str "work") (some (.int X.work)) := one_work X ▸ DGet.k (k := .inr "work") h
theorem og_moved {H : Hp} {d : Addr} {X : One} (h : H d = some (.dK (oneK X))) : DGet H d (.str "moved") (some (.int X.moved)) := one_moved X ▸ DGet.k (k := .inr "moved") h
theorem og_hand {H : Hp} {d : Addr} {X : One} (h : H d = some (.dK (oneK X))) : DGet H d (.str "hand") (some (oV X.hand)) := one_hand X ▸ DGet.k (k := .inr "hand") h
theorem og_ever {H : Hp} {d : Addr} {X : One} (h : H d = some (.dK (oneK X))) : DGet H d (.str "ever") (some (.int X.ever)) := one_ever X ▸ DGet.k (k := .inr "ever") h
theorem dec_oV {o : Option Int} : decide (oV o = V.non) = o.isNone := by cases o <;> rfl
section
variable {P : Program} {w : World} {K : PySem.W.Frag} {mg : Str → Option Value} {base : Heap} {H H' : Hp}
variable {sd : Addr} {k : Ls} {a : LA} {s : HS} {g : LG}
end
end SB

set_option Elab.async false
set_option linter.all false
set_option maxRecDepth 100000
set_option maxHeartbeats 4000000
namespace SB
open PySem PySem.Spec PyProof.Rows L2 LamX StX
structure WI (k : Wk) : Prop where
  off : k.on = false → k.hand = none
  lt : k.on = true → 0 ≤ k.laid ∧ k.laid < k.many
theorem onNums_set {ks : List Wk} {j : Nat} {kk kk' : Wk} (hk : ks[j]? = some kk) (e : kk'.on = kk.on) : onNums (ks.set j kk') = onNums ks := by
  refine rising_eq (onNums_lt _) (onNums_lt _) (fun i => ?_)
  rw [mem_onNums, mem_onNums]
  unfold onAt
  by_cases h : i = j
  · subst h
    rw [gset_self hk, hk]
    show kk'.on = true ↔ kk.on = true
    rw [e]
  · rw [gset_ne h]
theorem onNums_off {ks : List Wk} {j : Nat} {kk kk' : Wk} (hk : ks[j]? = some kk) (e : kk'.on = false) : onNums (ks.set j kk') = (onNums ks).filter fun i => decide (i ≠ j) := by
  refine rising_eq (onNums_lt _) ((onNums_lt _).filter _) (fun i => ?_)
  rw [List.mem_filter, mem_onNums, mem_onNums]
  unfold onAt
  by_cases h : i = j
  · subst h
    rw [gset_self hk]
    simp [e]
  · rw [gset_ne h]
    simp [h]
theorem wkAt_set {ks : List Wk} {j : Nat} {kk kk' : Wk} (hk : ks[j]? = some kk) : wkAt (ks.set j kk') j = kk' := wkAt_some (gset_self hk)
theorem wkAt_set_ne {ks : List Wk} {i j : Nat} {kk' : Wk} (h : i ≠ j) : wkAt (ks.set j kk') i = wkAt ks i := by
  unfold wkAt
  rw [gset_ne h]
theorem map_set_vs {ks : List Wk} {j : Nat} {kk kk' : Wk} (hk : ks[j]? = some kk) (e : kk'.vs = kk.vs) : (ks.set j kk').map Wk.vs = ks.map Wk.vs := by
  rw [List.map_set]
  refine set_same ?_
  rw [List.getElem?_map, hk, e]
  rfl
section
variable {P : Program} {w : World} {K : PySem.W.Frag} {mg : Str → Option Value} {base : Heap} {H H' : Hp}
variable {sd : Addr} {k : Ls} {a : LA} {s : HS} {g : LG}
end
end SB

set_option Elab.async false
set_option linter.all false
set_option maxRecDepth 100000
set_option maxHeartbeats 4000000
namespace SB
open PySem PySem.Spec PyProof.Rows L2 LamX StX
theorem viaIfX {tt : TT} {A B : TS} {D0 : Ends} {σ : L2.St} {H : Hp} (J : L2.St → Hp → Prop) (h : ∀ D : Ends, (∀ σ' H', J σ' H' → D.nx σ' H') → tIfS tt A B D σ H) (rest : ∀ σ' H', J σ' H' → D0.nx σ' H') : tIfS tt A B D0 σ H := h D0 rest
section
variable {P : Program} {w : World} {K : PySem.W.Frag} {mg : Str → Option Value} {base : Heap} {H H' : Hp}
theorem og_handI {H : Hp} {d : Addr} {n m e v : Int} (h : H d = some (.dK (oneK ⟨n, m, some v, e⟩))) : DGet H d (.str "hand") (some (.int v)) := og_hand h
def ND : List Str := ["_law_s", "_law_some", "_law_one", "_law_begin", "_law_goal", "_law_many", "_law_block", "_law_greed", "_law_mark", "_law_follow", "_law_place", "_law_told", "_law_other"]
end
end SB

set_option Elab.async false
set_option linter.all false
set_option maxRecDepth 100000
set_option maxHeartbeats 4000000
namespace SB
open PySem PySem.Spec PyProof.Rows L2 LamX StX
theorem lg_program {H : Hp} {sd : Addr} {k : Ls} (h : H sd = some (.dK (lsK k))) : DGet H sd (.str "program") (some (.ref k.program)) := ls_program k ▸ DGet.k (k := .inr "program") h
theorem lg_memory {H : Hp} {sd : Addr} {k : Ls} (h : H sd = some (.dK (lsK k))) : DGet H sd (.str "memory") (some (.ref k.memory)) := ls_memory k ▸ DGet.k (k := .inr "memory") h
theorem lg_cells {H : Hp} {sd : Addr} {k : Ls} (h : H sd = some (.dK (lsK k))) : DGet H sd (.str "cells") (some (.ref k.cells)) := ls_cells k ▸ DGet.k (k := .inr "cells") h
theorem lg_marks {H : Hp} {sd : Addr} {k : Ls} (h : H sd = some (.dK (lsK k))) : DGet H sd (.str "marks") (some (.ref k.marks)) := ls_marks k ▸ DGet.k (k := .inr "marks") h
theorem lg_pairs {H : Hp} {sd : Addr} {k : Ls} (h : H sd = some (.dK (lsK k))) : DGet H sd (.str "pairs") (some (.ref k.pairs)) := ls_pairs k ▸ DGet.k (k := .inr "pairs") h
theorem lg_firsts {H : Hp} {sd : Addr} {k : Ls} (h : H sd = some (.dK (lsK k))) : DGet H sd (.str "firsts") (some (.ref k.firsts)) := ls_firsts k ▸ DGet.k (k := .inr "firsts") h
theorem lg_on {H : Hp} {sd : Addr} {k : Ls} (h : H sd = some (.dK (lsK k))) : DGet H sd (.str "on") (some (.ref k.on)) := ls_on k ▸ DGet.k (k := .inr "on") h
theorem lg_asks {H : Hp} {sd : Addr} {k : Ls} (h : H sd = some (.dK (lsK k))) : DGet H sd (.str "asks") (some (.ref k.asks)) := ls_asks k ▸ DGet.k (k := .inr "asks") h
theorem lg_laid {H : Hp} {sd : Addr} {k : Ls} (h : H sd = some (.dK (lsK k))) : DGet H sd (.str "laid") (some (.ref k.laid)) := ls_laid k ▸ DGet.k (k := .inr "laid") h
theorem lg_row {H : Hp} {sd : Addr} {k : Ls} (h : H sd = some (.dK (lsK k))) : DGet H sd (.str "row") (some (.int k.row)) := ls_row k ▸ DGet.k (k := .inr "row") h
theorem lg_left {H : Hp} {sd : Addr} {k : Ls} (h : H sd = some (.dK (lsK k))) : DGet H sd (.str "left") (some (.int k.left)) := ls_left k ▸ DGet.k (k := .inr "left") h
theorem lg_time {H : Hp} {sd : Addr} {k : Ls} (h : H sd = some (.dK (lsK k))) : DGet H sd (.str "time") (some (.int k.time)) := ls_time k ▸ DGet.k (k := .inr "time") h
theorem lg_half {H : Hp} {sd : Addr} {k : Ls} (h : H sd = some (.dK (lsK k))) : DGet H sd (.str "half") (some (.int k.half)) := ls_half k ▸ DGet.k (k := .inr "half") h
theorem lg_ever {H : Hp} {sd : Addr} {k : Ls} (h : H sd = some (.dK (lsK k))) : DGet H sd (.str "ever") (some (.int k.ever)) := ls_ever k ▸ DGet.k (k := .inr "ever") h
theorem touch_put {g : LG} {r : Row} {S : MS} {ws : List Int} {n : Int} (h : r.isG = false) : g.touch r S ws n = g := by
  cases r <;> first | rfl | cases h
theorem touch_get {g : LG} {r : Row} {S : MS} {ws : List Int} {n : Int} (h : r.isG = true) (np : ¬ (r.nm = "pair" ∧ S.spent = 1)) : g.touch r S ws n = { g with half := n } := by
  cases r with
  | get a b => rfl
  | getx a b => rfl
  | pair a b =>
    show (if S.spent = 1 then _ else _) = _
    rw [if_neg (fun z => np ⟨by kernel_rfl, z⟩)]
  | _ => cases h
theorem touch_pair {g : LG} {r : Row} {S : MS} {ws : List Int} {n : Int} {r1 r2 : Int} (hp : r.nm = "pair") (h1 : S.spent = 1) (e : r.vs = [.str r.nm, .int r1, .int r2]) : g.touch r S ws n = { g with half := n, pairs := g.pairs ++ [(S.row, r2 % ws.length, g.half, (r2 + 1) % ws.length, n)] } := by
  cases r with
  | pair a b =>
    have e' : b = r2 := by
      have : ([.str "pair", .int a, .int b] : List V) = [.str _, .int r1, .int r2] := e
      simp only [List.cons.injEq, V.int.injEq, and_true] at this
      exact this.2.2
    subst e'
    show (if S.spent = 1 then _ else _) = _
    rw [if_pos h1]
  | _ => exact absurd hp (of_decide_eq_false (by kernel_rfl))
section
variable {P : Program} {w : World} {K : PySem.W.Frag} {mg : Str → Option Value} {base : Heap} {H H' : Hp}
end
end SB

set_option Elab.async false
set_option linter.all false
set_option maxRecDepth 100000
set_option maxHeartbeats 4000000
namespace SB
open PySem PySem.Spec PyProof.Rows L2 LamX StX
theorem reck_set {x y : Int} {c : List Int} {ks : List Wk} : reck "set" x y c ks = y := by unfold reck; rw [if_pos rfl]
theorem reck_add {x y : Int} {c : List Int} {ks : List Wk} : reck "add" x y c ks = (x + c.getD y.toNat 0) % 1000 := by unfold reck; rw [if_neg (by decide +kernel), if_neg (by decide +kernel), if_pos rfl]
theorem reck_less {x y : Int} {c : List Int} {ks : List Wk} : reck "less" x y c ks = if x < c.getD y.toNat 0 then 1 else 0 := by unfold reck; rw [if_neg (by decide +kernel), if_neg (by decide +kernel), if_neg (by decide +kernel)]
theorem reck_done {x y : Int} {c : List Int} {ks : List Wk} : reck "done" x y c ks = if isOn ks y = true then 0 else 1 := by unfold reck; rw [if_neg (by decide +kernel), if_pos rfl]
section
variable {P : Program} {w : World} {K : PySem.W.Frag} {mg : Str → Option Value} {base : Heap} {H H' : Hp}
end
end SB

set_option Elab.async false
set_option linter.all false
set_option maxRecDepth 100000
set_option maxHeartbeats 4000000
namespace SB
open PySem PySem.Spec PyProof.Rows L2 LamX StX
theorem useW_ge {z : Str} {p cl : Int} {c ws : List Int} (hc : ∀ x ∈ c, 0 ≤ x) (hw : ∀ x ∈ ws, 0 ≤ x) : (∀ x ∈ (useW z p cl c ws).1, 0 ≤ x) ∧ (∀ x ∈ (useW z p cl c ws).2.1, 0 ≤ x) := by
  have gd : ∀ {l : List Int} {i : Nat}, (∀ x ∈ l, 0 ≤ x) → 0 ≤ l.getD i 0 := fun {l i} h => by
    rw [List.getD]
    cases e : l[i]? with
    | none => exact Int.le_refl 0
    | some y => exact h y (List.mem_of_getElem? e)
  unfold useW
  split
  · exact ⟨fun x hx => (List.mem_or_eq_of_mem_set hx).elim (hc x) (fun e => e ▸ gd hw), hw⟩
  · exact ⟨hc, fun x hx => (List.mem_or_eq_of_mem_set hx).elim (hw x) (fun e => e ▸ gd hc)⟩
theorem at_eq {xs : List V} {n : Int} (h0 : 0 ≤ n) : atI xs n = xs[n.toNat]? := by
  unfold atI ixN
  rw [if_pos h0]
  by_cases h : n < xs.length
  · rw [if_pos h]
    rfl
  · rw [if_neg h]
    exact (List.getElem?_eq_none (by omega)).symm
theorem eff_sp {n : Nat} {S : MS} {ks : List Wk} {r : Row} : (eff n S ks r).1.spent = 0 := by cases r <;> rfl
theorem getD_ge {l : List Int} {i : Nat} (h : ∀ x ∈ l, 0 ≤ x) : 0 ≤ l.getD i 0 := by
  rw [List.getD]
  cases e : l[i]? with
  | none => exact Int.le_refl 0
  | some y => exact h y (List.mem_of_getElem? e)
theorem set_ge {l : List Int} {i : Nat} {v : Int} (h : ∀ x ∈ l, 0 ≤ x) (hv : 0 ≤ v) : ∀ x ∈ l.set i v, 0 ≤ x := fun x hx => (List.mem_or_eq_of_mem_set hx).elim (h x) (fun e => e ▸ hv)
theorem reck_ge {z : Str} {a b : Int} {c : List Int} {ks : List Wk} (hb : z = "set" → 0 ≤ b) : 0 ≤ reck z a b c ks := by
  unfold reck
  split
  · exact hb (by assumption)
  · split
    · split <;> decide
    · split
      · exact Int.emod_nonneg _ (by decide)
      · split <;> decide
theorem eff_ge {n : Nat} {S : MS} {ks : List Wk} {r : Row} (h : ∀ c ∈ S.cells, 0 ≤ c) (ok : r.okW n) : ∀ c ∈ (eff n S ks r).1.cells, 0 ≤ c := by
  cases r with
  | set a b => exact set_ge h (reck_ge fun _ => ok.2.1)
  | add a b => exact set_ge h (reck_ge fun z => absurd z (of_decide_eq_false (by kernel_rfl)))
  | less a b => exact set_ge h (reck_ge fun z => absurd z (of_decide_eq_false (by kernel_rfl)))
  | done a b => exact set_ge h (reck_ge fun z => absurd z (of_decide_eq_false (by kernel_rfl)))
  | _ => exact h
theorem tick_ge {n : Nat} {S : MS} {ks : List Wk} {r : Row} (h : ∀ c ∈ S.cells, 0 ≤ c) (ok : r.okW n) : ∀ c ∈ (tick n S ks r).1.cells, 0 ≤ c := by
  unfold tick
  split
  · exact eff_ge h ok
  · exact h
theorem mstep_ge {prog : List Row} {S : MS} {ks : List Wk} {took : Bool} {ws : List Int} (hp : ∀ r ∈ prog, r.okW prog.length) (hc : ∀ c ∈ S.cells, 0 ≤ c) (hw : ∀ x ∈ ws, 0 ≤ x) : (∀ c ∈ (mstep prog S ks took ws).1.cells, 0 ≤ c) ∧ ∀ x ∈ (mstep prog S ks took ws).2.2.1, 0 ≤ x := by
  unfold mstep
  cases e1 : prog[S.row.toNat]? with
  | none => exact ⟨hc, hw⟩
  | some r =>
    have rok := hp r (List.mem_of_getElem? e1)
    cases hwd : r.word S.spent S.cells with
    | none =>
      simp only [hwd]
      exact ⟨tick_ge hc rok, hw⟩
    | some zz =>
      obtain ⟨z, p, cl⟩ := zz
      simp only [hwd]
      split
      · exact ⟨hc, hw⟩
      · exact ⟨tick_ge (useW_ge hc hw).1 rok, (useW_ge hc hw).2⟩
structure KI (k : Wk) : Prop where
  wi : WI k
  mp : 0 < k.many
  h : ∀ x, k.hand = some x → 0 ≤ x
structure HI (s : HS) : Prop where
  o : HOk s
  k : ∀ k ∈ s.ks, KI k
  c : ∀ x ∈ s.S.cells, 0 ≤ x
  w : ∀ x ∈ s.ws, 0 ≤ x
theorem KI.start {k : Wk} (h : KI k) : KI k.start := by
  unfold Wk.start
  split
  · exact h
  · rename_i hn
    exact ⟨⟨(fun z => by cases z), (fun _ => ⟨Int.le_refl 0, h.mp⟩)⟩, h.mp, h.h⟩
theorem KI.move {k : Wk} {ws : List Int} (h : KI k) (on : k.on = true) (hw : ∀ x ∈ ws, 0 ≤ x) : KI (k.move ws).1 ∧ ∀ x ∈ (k.move ws).2.1, 0 ≤ x := by
  unfold Wk.move
  obtain ⟨l0, l1⟩ := h.wi.lt on
  cases hh : k.hand with
  | none =>
    refine ⟨⟨⟨fun z => ?_, fun z => ⟨l0, l1⟩⟩, h.mp, fun x hx => ?_⟩, hw⟩
    · have z : k.on = false := z
      rw [on] at z
      cases z
    · have hx := Option.some.inj hx
      rw [← hx]
      exact getD_ge hw
  | some v =>
    refine ⟨⟨⟨fun _ => rfl, fun z => ?_⟩, h.mp, (fun x hx => by cases hx)⟩, set_ge hw (h.h v hh)⟩
    have z : decide (k.laid + 1 < k.many) = true := z
    have z := of_decide_eq_true z
    exact ⟨by show 0 ≤ k.laid + 1; omega, z⟩
theorem askAll_ki {b : Int} : ∀ {as : List (Int × Int)} {ks : List Wk}, (∀ k ∈ ks, KI k) → ∀ k ∈ askAll b ks as, KI k
  | [], ks, h => h
  | a :: r, ks, h => by
    show ∀ k ∈ askAll b (askOne b ks a) r, KI k
    refine askAll_ki (fun k hk => ?_)
    unfold askOne at hk
    split at hk
    · exact all_modify (fun x hx => hx.start) h k hk
    · exact h k hk
theorem takes_on {ms : List Bool} {wanted took : Bool} {k : Wk} (h : takes ms wanted took k = true) : k.on = true := by
  unfold takes at h
  cases hk : k.on <;> simp_all
theorem devMove_ki {ks : List Wk} {took wanted : Bool} {ms : List Bool} {ws : List Int} (h : ∀ k ∈ ks, KI k) (hw : ∀ x ∈ ws, 0 ≤ x) : (∀ k ∈ (devMove ks took wanted ms ws).1, KI k) ∧ ∀ x ∈ (devMove ks took wanted ms ws).2.2.1, 0 ≤ x := by
  unfold devMove
  cases hf : ks.findIdx? (takes ms wanted took) with
  | none => exact ⟨h, hw⟩
  | some j =>
    cases hk : ks[j]? with
    | none => simp only [hk]; exact ⟨h, hw⟩
    | some k =>
      rw [List.findIdx?_eq_some_iff_getElem] at hf
      obtain ⟨hj, h1, _⟩ := hf
      have ek : ks[j] = k := by rw [List.getElem?_eq_getElem hj] at hk; exact Option.some.inj hk
      rw [ek] at h1
      have hk' := (h k (List.mem_of_getElem? hk)).move (takes_on h1) hw
      simp only [hk]
      refine ⟨?_, hk'.2⟩
      split
      · exact all_set h hk'.1
      · split
        · exact all_set h hk'.1
        · exact all_modify (fun x hx => hx.start) (all_set h hk'.1)
theorem eff_ki {m : Nat} {S : MS} {ks : List Wk} {r : Row} (h : ∀ k ∈ ks, KI k) : ∀ k ∈ (eff m S ks r).2, KI k := by
  cases r <;> first | exact h | exact all_modify (fun x hx => hx.start) h
theorem tick_ki {m : Nat} {S : MS} {ks : List Wk} {r : Row} (h : ∀ k ∈ ks, KI k) : ∀ k ∈ (tick m S ks r).2, KI k := by
  unfold tick
  split
  · exact eff_ki h
  · exact h
theorem mstep_ki {prog : List Row} {S : MS} {ks : List Wk} {took : Bool} {ws : List Int} (h : ∀ k ∈ ks, KI k) : ∀ k ∈ (mstep prog S ks took ws).2.1, KI k := by
  unfold mstep
  cases e1 : prog[S.row.toNat]? with
  | none => exact h
  | some r =>
    cases hwd : r.word S.spent S.cells with
    | none => simp only [hwd]; exact tick_ki h
    | some zz =>
      obtain ⟨z, p, cl⟩ := zz
      simp only [hwd]
      split
      · exact h
      · exact tick_ki h
theorem HI.next {s : HS} (h : HI s) : HI s.next := by
  have d := devMove_ki (took := s.took) (wanted := (wantedOf s.prog s.S).isSome) (ms := s.S.marks) (askAll_ki (b := s.beats) (as := s.asks) h.k) h.w
  have m := mstep_ge (prog := s.prog) (S := s.S) (ks := s.dm.1) (took := s.dm.2.1) (ws := s.dm.2.2.1) h.o.m.rows h.c d.2
  exact ⟨h.o.next, mstep_ki d.1, m.1, m.2⟩
theorem HI.after {s : HS} (h : HI s) : ∀ n, HI (s.after n)
  | 0 => h
  | n + 1 => (h.after n).next
theorem HI.asked {s : HS} (h : HI s) : HI { s with ks := askAll s.beats s.ks s.asks } :=
  ⟨⟨h.o.m, h.o.w0, askAll_ok h.o.k, h.o.a, h.o.a8, by show (askAll s.beats s.ks s.asks).length ≤ 6; rw [askAll_len]; exact h.o.l6⟩, askAll_ki h.k, h.c, h.w⟩
theorem devMove_took {ks : List Wk} {took wanted : Bool} {ms : List Bool} {ws : List Int} : (devMove ks took wanted ms ws).2.1 = (devMove ks took wanted ms ws).2.2.2.isSome := by
  unfold devMove
  cases ks.findIdx? (takes ms wanted took) with
  | none => rfl
  | some j =>
    cases hk : ks[j]? with
    | none => simp [hk]
    | some k => simp [hk]
theorem askAll_snoc {b : Int} {x : Int × Int} : ∀ {as : List (Int × Int)} {ks : List Wk}, askAll b ks (as ++ [x]) = askOne b (askAll b ks as) x
  | [], ks => rfl
  | a :: r, ks => by
    show askAll b (askOne b ks a) (r ++ [x]) = askOne b (askAll b (askOne b ks a) r) x
    exact askAll_snoc
theorem asks_snoc {b : Int} {x : Int × Int} : ∀ {as : List (Int × Int)} {ks : List Wk} {g : LG}, g.asks b ks (as ++ [x]) = if x.1 = b then (g.asks b ks as).start (askAll b ks as) x.2.toNat else g.asks b ks as
  | [], ks, g => by
    show (if x.1 = b then (g.start ks x.2.toNat).asks b (ks.modify x.2.toNat Wk.start) [] else g.asks b ks []) = _
    rfl
  | a :: r, ks, g => by
    show (if a.1 = b then (g.start ks a.2.toNat).asks b (ks.modify a.2.toNat Wk.start) (r ++ [x]) else g.asks b ks (r ++ [x])) = if x.1 = b then (if a.1 = b then (g.start ks a.2.toNat).asks b (ks.modify a.2.toNat Wk.start) r else g.asks b ks r).start (askAll b (askOne b ks a) r) x.2.toNat else (if a.1 = b then (g.start ks a.2.toNat).asks b (ks.modify a.2.toNat Wk.start) r else g.asks b ks r)
    by_cases h : a.1 = b
    · rw [if_pos h, if_pos h, asks_snoc]
      have e : askOne b ks a = ks.modify a.2.toNat Wk.start := by unfold askOne; rw [if_pos h]
      rw [e]
    · rw [if_neg h, if_neg h, asks_snoc]
      have e : askOne b ks a = ks := by unfold askOne; rw [if_neg h]
      rw [e]
theorem start_laid {g : LG} {ks : List Wk} {n : Nat} : (g.start ks n).laid = g.laid ∧ (g.start ks n).pairs = g.pairs ∧ (g.start ks n).firsts = g.firsts ∧ (g.start ks n).half = g.half := by
  unfold LG.start
  cases ks[n]? with
  | none => exact ⟨rfl, rfl, rfl, rfl⟩
  | some k =>
    show (if k.on = true then g else _).laid = _ ∧ (if k.on = true then g else _).pairs = _ ∧ (if k.on = true then g else _).firsts = _ ∧ (if k.on = true then g else _).half = _
    split <;> exact ⟨rfl, rfl, rfl, rfl⟩
theorem asks_laid {b : Int} : ∀ {as : List (Int × Int)} {ks : List Wk} {g : LG}, (g.asks b ks as).laid = g.laid ∧ (g.asks b ks as).pairs = g.pairs ∧ (g.asks b ks as).firsts = g.firsts ∧ (g.asks b ks as).half = g.half
  | [], ks, g => ⟨rfl, rfl, rfl, rfl⟩
  | a :: r, ks, g => by
    show (if a.1 = b then (g.start ks a.2.toNat).asks b (ks.modify a.2.toNat Wk.start) r else g.asks b ks r).laid = _ ∧ (if a.1 = b then (g.start ks a.2.toNat).asks b (ks.modify a.2.toNat Wk.start) r else g.asks b ks r).pairs = _ ∧ (if a.1 = b then (g.start ks a.2.toNat).asks b (ks.modify a.2.toNat Wk.start) r else g.asks b ks r).firsts = _ ∧ (if a.1 = b then (g.start ks a.2.toNat).asks b (ks.modify a.2.toNat Wk.start) r else g.asks b ks r).half = _
    split
    · obtain ⟨h1, h2, h3, h4⟩ := asks_laid (b := b) (as := r) (ks := ks.modify a.2.toNat Wk.start) (g := g.start ks a.2.toNat)
      obtain ⟨j1, j2, j3, j4⟩ := start_laid (g := g) (ks := ks) (n := a.2.toNat)
      exact ⟨h1.trans j1, h2.trans j2, h3.trans j3, h4.trans j4⟩
    · exact asks_laid
theorem dev_half {g : LG} {ks : List Wk} {took wanted : Bool} {ms : List Bool} {ws : List Int} {n : Int} : (g.dev ks took wanted ms ws n).half = g.half ∧ (g.dev ks took wanted ms ws n).pairs = g.pairs ∧ (g.dev ks took wanted ms ws n).firsts = g.firsts ∧ (g.dev ks took wanted ms ws n).laid.length ≤ g.laid.length + 1 := by
  unfold LG.dev
  cases ks.findIdx? (takes ms wanted took) with
  | none => exact ⟨rfl, rfl, rfl, by show g.laid.length ≤ _; omega⟩
  | some j =>
    dsimp only
    cases (wkAt ks j).hand with
    | none => exact ⟨rfl, rfl, rfl, by show g.laid.length ≤ _; omega⟩
    | some v =>
      dsimp only
      split
      · exact ⟨rfl, rfl, rfl, by show (g.laid ++ _).length ≤ _; rw [List.length_append]; exact Nat.le_refl _⟩
      · split
        · exact ⟨rfl, rfl, rfl, by show (g.laid ++ _).length ≤ _; rw [List.length_append]; exact Nat.le_refl _⟩
        · obtain ⟨j1, j2, j3, j4⟩ := start_laid (g := { g with laid := g.laid ++ [(g.ev.getD j 0, ((wkAt ks j).goal + (wkAt ks j).laid) % ws.length, n, (j : Int))] }) (ks := ks.set j ((wkAt ks j).move ws).1) (n := (_ : Int).toNat)
          exact ⟨j4, j2, j3, by rw [j1]; show (g.laid ++ _).length ≤ _; rw [List.length_append]; exact Nat.le_refl _⟩
end SB

set_option Elab.async false
set_option linter.all false
set_option maxRecDepth 100000
set_option maxHeartbeats 4000000
namespace SB
open PySem PySem.Spec PyProof.Rows L2 LamX StX
structure LsN (k : Ls) (s : HS) (g : LG) : Prop where
  row : k.row = s.S.row
  left : k.left = longOf s.prog s.S.row - s.S.spent
  time : k.time = s.beats
  ever : k.ever = g.ever
  took : k.took = s.took
  half : k.half = g.half
structure LsX (k k' : Ls) (a a' : LA) : Prop where
  program : k'.program = k.program
  works : k'.works = k.works
  memory : k'.memory = k.memory
  asks : k'.asks = k.asks
  firsts : k'.firsts = k.firsts
  laid : k'.laid = k.laid
  pairs : k'.pairs = k.pairs
  rs : a'.rs = a.rs
  ts : a'.ts = a.ts
  qs : a'.qs = a.qs
theorem LsX.refl (k : Ls) (a : LA) : LsX k k a a := ⟨rfl, rfl, rfl, rfl, rfl, rfl, rfl, rfl, rfl, rfl⟩
theorem LsX.trans {k k1 k2 : Ls} {a a1 a2 : LA} (x : LsX k k1 a a1) (y : LsX k1 k2 a1 a2) : LsX k k2 a a2 := ⟨y.program.trans x.program, y.works.trans x.works, y.memory.trans x.memory, y.asks.trans x.asks, y.firsts.trans x.firsts, y.laid.trans x.laid, y.pairs.trans x.pairs, y.rs.trans x.rs, y.ts.trans x.ts, y.qs.trans x.qs⟩
theorem viaTestN {tt : TT} {A B : TS} {D : Ends} {σ : L2.St} {H : Hp} {c : Bool} (h : ∀ Q : Bool → Hp → Prop, Q c H → tt σ H Q) (rest : if c = true then A D σ H else B D σ H) : tIfS tt A B D σ H := h _ rest
theorem viaAsgN {te : TE} {g : TG} {D0 : Ends} {σ : L2.St} {H : Hp} (J : L2.St → Hp → Prop) (h : ∀ D : Ends, (∀ σ' H', J σ' H' → D.nx σ' H') → tAsg te g D σ H) (rest : ∀ σ' H', J σ' H' → D0.nx σ' H') : tAsg te g D0 σ H := h D0 rest
theorem viaIfN {tt : TT} {A B : TS} {D0 : Ends} {σ : L2.St} {H : Hp} (J : L2.St → Hp → Prop) (h : ∀ D : Ends, (∀ σ' H', J σ' H' → D.nx σ' H') → tIfS tt A B D σ H) (rest : ∀ σ' H', J σ' H' → D0.nx σ' H') : tIfS tt A B D0 σ H := h D0 rest
theorem TAt.tuk {H H' : Hp} {v : V} {x : Option (Int × Str × Int × Int)} (h : TAt H v x) (k : TuK H H') : TAt H' v x := h.keep k.tk
theorem TAt.non {H : Hp} {v : V} {x : Option (Int × Str × Int × Int)} (h : TAt H v x) : (!decide (v = .non)) = x.isSome := by
  cases x with
  | none =>
    have h : v = .non := h
    rw [h]
    rfl
  | some z =>
    obtain ⟨z1, z2, z3, z4⟩ := z
    obtain ⟨p, e, _⟩ := h
    rw [e]
    rfl
section
variable {P : Program} {w : World} {K : PySem.W.Frag} {mg : Str → Option Value} {base : Heap} {H H' : Hp}
end
end SB

set_option Elab.async false
set_option linter.all false
set_option maxRecDepth 100000
set_option maxHeartbeats 4000000
namespace SB
open PySem PySem.Spec PyProof.Rows L2
section
variable {K : PySem.W.Frag} {H H' : Hp}
def rowD (s : HS) : PyData := if s.S.row = s.prog.length then .none else .int s.S.row
def goD (g : Int × Int × Bool) : PyData := .tuple [.int g.1, .int g.2.1, .bool g.2.2]
def dSh (s : HS) : PyData := .tuple [.int s.beats, rowD s, .list (pyInts s.S.cells), .list (pyInts s.ws), .list (s.S.marks.map .bool), .list ((goFrom 0 s.ks).map goD)]
theorem dp_bls : ∀ bs : List Bool, DpAll K H (bs.map V.bl) (bs.map PyData.bool)
  | [] => .nil
  | b :: r => .cons (.bl b) (dp_bls r)
theorem dp_row (s : HS) : Dp K H (rowV s) (rowD s) := by
  unfold rowV rowD
  split
  · exact .non
  · exact .int _
theorem ShownAt.dp {H0 : Hp} {p c w' k g : Addr} {ps : List Addr} {s : HS} (h : ShownAt H0 H p c w' k g ps s) : Dp K H (.ref p) (dSh s) := by
  refine .tup (SqT.of h.tup) (.cons (.int _) (.cons (dp_row s) (.cons (.lst (SqL.of h.hc) (dp_ints _)) (.cons (.lst (SqL.of h.hw) (dp_ints _)) (.cons (.lst (SqL.of h.hk) (dp_bls _)) (.cons (.lst (SqL.of h.hg.lst) (dpAll_of ps (goFrom 0 s.ks) (by rw [h.hg.len, List.length_map]) (fun j p e h1 h2 => ?_))) .nil))))))
  have h3 := h.hg.at_ j p (goV e) h1 (by rw [List.getElem?_map, h2]; rfl)
  exact .tup (SqT.of h3) (.cons (.int _) (.cons (.int _) (.cons (.bl _) .nil)))
theorem lay_bls : ∀ bs : List Bool, PyData.canLayAll0 (bs.map PyData.bool) = true
  | [] => rfl
  | b :: r => by
    show (true && PyData.canLayAll0 (r.map PyData.bool)) = true
    rw [lay_bls r]
    rfl
theorem deep_bls : ∀ bs : List Bool, PyData.depthAll (bs.map PyData.bool) = 0
  | [] => rfl
  | b :: r => by
    show max 0 (PyData.depthAll (r.map PyData.bool)) = 0
    rw [deep_bls r]
    rfl
def dRun (es : List BeatE) (s : HS) : PyData := .tuple [.list (es.map dE), dSh s]
theorem row_lay (s : HS) : PyData.canLay0 (rowD s) = true ∧ PyData.depth (rowD s) = 0 := by
  unfold rowD
  split <;> exact ⟨rfl, rfl⟩
theorem dRun_shaped {es : List BeatE} (s : HS) (h : ∀ e ∈ es, PyData.canLay0 (dE e) = true) : SeqAt.shaped (dRun es s) = true := by
  have h1 := lay_all es h
  have h2 := deep_all dE_deep es
  have g1 := lay_all (f := goD) (goFrom 0 s.ks) (fun x _ => rfl)
  have g2 := deep_all (f := goD) (n := 1) (fun x => Nat.le_refl _) (goFrom 0 s.ks)
  have r := row_lay s
  have c1 := canLay_ints s.S.cells
  have c2 := depth_ints s.S.cells
  have w1 := canLay_ints s.ws
  have w2 := depth_ints s.ws
  have b1 := lay_bls s.S.marks
  have b2 := deep_bls s.S.marks
  show ((PyData.canLayAll0 (es.map dE) && ((true && (PyData.canLay0 (rowD s) && (PyData.canLayAll0 (pyInts s.S.cells) && (PyData.canLayAll0 (pyInts s.ws) && (PyData.canLayAll0 (s.S.marks.map .bool) && (PyData.canLayAll0 ((goFrom 0 s.ks).map goD) && true)))))) && true)) && decide (max (PyData.depthAll (es.map dE) + 1) (max (max 0 (max (PyData.depth (rowD s)) (max (PyData.depthAll (pyInts s.S.cells) + 1) (max (PyData.depthAll (pyInts s.ws) + 1) (max (PyData.depthAll (s.S.marks.map .bool) + 1) (max (PyData.depthAll ((goFrom 0 s.ks).map goD) + 1) 0))))) + 1) 0) + 1 ≤ 64)) = true
  rw [h1, g1, r.1, c1, w1, b1, decide_eq_true (by omega)]
  rfl
theorem dRun_deep {es : List BeatE} (s : HS) : PyData.depth (dRun es s) ≤ 4 := by
  have h2 := deep_all dE_deep es
  have g2 := deep_all (f := goD) (n := 1) (fun x => Nat.le_refl _) (goFrom 0 s.ks)
  have r := row_lay s
  have c2 := depth_ints s.S.cells
  have w2 := depth_ints s.ws
  have b2 := deep_bls s.S.marks
  show max (PyData.depthAll (es.map dE) + 1) (max (max 0 (max (PyData.depth (rowD s)) (max (PyData.depthAll (pyInts s.S.cells) + 1) (max (PyData.depthAll (pyInts s.ws) + 1) (max (PyData.depthAll (s.S.marks.map .bool) + 1) (max (PyData.depthAll ((goFrom 0 s.ks).map goD) + 1) 0))))) + 1) 0) + 1 ≤ 4
  omega
end
end SB

set_option Elab.async false
set_option linter.all false
set_option maxRecDepth 100000
set_option maxHeartbeats 2000000
namespace SB
open PySem PySem.Spec PyProof.Rows L2 LamX
structure NW (H0 H : Hp) (xs : List (Addr × HO)) : Prop where
  same : Same H0 H
  at_ : ∀ y ∈ xs, H y.1 = some y.2
  nd : (xs.map (·.1)).Nodup
  new : ∀ y ∈ xs, H0 y.1 = none
theorem NW.nil (H : Hp) : NW H H [] := ⟨Same.refl _, by simp, by simp, by simp⟩
theorem NW.lay {H0 H : Hp} {xs : List (Addr × HO)} (h : NW H0 H xs) {p : Addr} {o : HO} (hp : H p = none) : NW H0 (upd H p o) ((p, o) :: xs) := by
  have ne : ∀ y ∈ xs, y.1 ≠ p := fun y hy => ne_of_none (h.at_ y hy) hp
  refine ⟨Same.new h.same (Same.free h.same hp), fun y hy => ?_, ?_, fun y hy => ?_⟩
  · rcases List.mem_cons.mp hy with rfl | hy
    · exact upd_same
    · rw [upd_ne (ne y hy)]
      exact h.at_ y hy
  · rw [List.map_cons, List.nodup_cons]
    refine ⟨fun hm => ?_, h.nd⟩
    obtain ⟨y, hy, e⟩ := List.mem_map.mp hm
    exact ne y hy e
  · rcases List.mem_cons.mp hy with rfl | hy
    · exact Same.free h.same hp
    · exact h.new y hy
theorem NW.go {H0 H H' : Hp} {xs : List (Addr × HO)} (h : NW H0 H xs) (s : Same H H') : NW H0 H' xs := ⟨h.same.trans s, fun y hy => s _ _ (h.at_ y hy), h.nd, h.new⟩
theorem NW.put {H0 H : Hp} {xs : List (Addr × HO)} (h : NW H0 H xs) (i : Nat) {a : Addr} {o : HO} (o' : HO) (e : xs[i]? = some (a, o)) : NW H0 (upd H a o') (xs.set i (a, o')) := by
  have hm := List.mem_of_getElem? e
  have mp : (xs.set i (a, o')).map (·.1) = xs.map (·.1) := by
    rw [List.map_set]
    show (xs.map (·.1)).set i a = _
    apply List.ext_getElem?
    intro j
    rw [List.getElem?_set]
    split
    · rename_i z
      subst z
      split
      · rw [List.getElem?_map, e]; rfl
      · rename_i z
        rw [List.getElem?_eq_none (by omega)]
    · rfl
  refine ⟨fun b u hb => ?_, fun y hy => ?_, by rw [mp]; exact h.nd, fun y hy => ?_⟩
  · have n := h.new _ hm
    rw [upd_ne (fun z => by rw [z] at hb; rw [hb] at n; cases n)]
    exact h.same _ _ hb
  · obtain ⟨j, hj⟩ := List.getElem?_of_mem hy
    rw [List.getElem?_set] at hj
    split at hj
    · split at hj
      · cases hj; exact upd_same
      · cases hj
    · rename_i hij
      have hy2 := List.mem_of_getElem? hj
      rw [upd_ne (fun z => ?_)]
      · exact h.at_ y hy2
      · have n1 : (xs.map (·.1))[i]? = some a := by rw [List.getElem?_map, e]; rfl
        have n2 : (xs.map (·.1))[j]? = some a := by rw [List.getElem?_map, hj, ← z]; rfl
        obtain ⟨hi, e1⟩ := List.getElem?_eq_some_iff.mp n1
        obtain ⟨hj', e2⟩ := List.getElem?_eq_some_iff.mp n2
        have f := List.pairwise_iff_getElem.mp h.nd
        rcases Nat.lt_trichotomy i j with hlt | heq | hgt
        · exact f i j hi hj' hlt (e1.trans e2.symm)
        · exact hij heq
        · exact f j i hj' hi hgt (e2.trans e1.symm)
  · have hy1 : y.1 ∈ (xs.set i (a, o')).map (·.1) := List.mem_map.mpr ⟨y, hy, rfl⟩
    rw [mp] at hy1
    obtain ⟨z, hz, ez⟩ := List.mem_map.mp hy1
    rw [← ez]
    exact h.new z hz
theorem NW.sub {H0 H : Hp} {xs ys : List (Addr × HO)} (h : NW H0 H xs) (s : ys.Sublist xs) : NW H0 H ys := ⟨h.same, fun y hy => h.at_ y (s.mem hy), List.Nodup.sublist (s.map _) h.nd, fun y hy => h.new y (s.mem hy)⟩
theorem ls_made2 (program : Addr) (works : Addr) (memory : Addr) (asks : Addr) (cells : Addr) (marks : Addr) (row : Int) (left : Int) (time : Int) (on : Addr) (ever : Int) (took : Bool) (firsts : Addr) (laid : Addr) (pairs : Addr) (half : Int) : mergeK (mergeK (mergeK [] [((.inr ("program" : Str) : Key), V.ref program), ((.inr ("works" : Str) : Key), V.ref works), ((.inr ("memory" : Str) : Key), V.ref memory), ((.inr ("asks" : Str) : Key), V.ref asks), ((.inr ("cells" : Str) : Key), V.ref cells)]) (mergeK [] [((.inr ("marks" : Str) : Key), V.ref marks), ((.inr ("row" : Str) : Key), V.int row), ((.inr ("left" : Str) : Key), V.int left), ((.inr ("time" : Str) : Key), V.int time), ((.inr ("on" : Str) : Key), V.ref on)])) (mergeK [] [((.inr ("ever" : Str) : Key), V.int ever), ((.inr ("took" : Str) : Key), V.bl took), ((.inr ("firsts" : Str) : Key), V.ref firsts), ((.inr ("laid" : Str) : Key), V.ref laid), ((.inr ("pairs" : Str) : Key), V.ref pairs), ((.inr ("half" : Str) : Key), V.int half)]) = lsK ⟨program, works, memory, asks, cells, marks, row, left, time, on, ever, took, firsts, laid, pairs, half⟩ := by kernel_rfl
section
variable {P : Program} {w : World} {K : PySem.W.Frag} {mg : Str → Option Value} {base : Heap} {H H' : Hp}
def lsNew (sd : Addr) (k : Ls) (mem asks : List V) (n : Nat) : List (Addr × HO) := [(k.pairs, .lst []), (k.laid, .lst []), (k.firsts, .lst (List.replicate n .non)), (k.on, .lst []), (k.marks, .lst [.bl false, .bl false, .bl false]), (k.cells, .lst [.int 0, .int 0, .int 0, .int 0]), (k.asks, .lst asks), (k.memory, .lst mem), (sd, .dK (lsK k))]
def sp_l_hall (K : PySem.W.Frag) : Sp := fun vs H Q _ => ∃ (pa wl ml al : Addr) (rs : List Addr) (prog : List Row) (mem asks : List V), vs = [.ref pa, .ref wl, .ref ml, .ref al] ∧ ProgAt K H pa rs prog ∧ prog.length ≤ 90 ∧ SqL K H ml mem ∧ SqL K H al asks ∧
  ∀ H' sd k, NW H H' (lsNew sd k mem asks prog.length) → k.program = pa → k.works = wl → k.row = 0 → k.left = longOf prog 0 → k.time = 0 → k.ever = 0 → k.took = false → k.half = 0 → Q (.ref sd) H'
theorem onNums_fresh (ks : List Wk) : onNums (ks.map Wk.fresh) = [] := by
  unfold onNums
  rw [List.filter_eq_nil_iff]
  intro j _
  unfold onAt
  rw [List.getElem?_map]
  cases ks[j]? with
  | none => simp
  | some k => simp [Wk.fresh]
theorem at0_hiW {prog : List Row} {ks : List Wk} {ws : List Int} {as : List (Int × Int)} (pok : ∀ r ∈ prog, r.okW prog.length) (k6 : ks.length ≤ 6) (wok : ∀ k ∈ ks, WOk ks.length k) (w4 : 4 ≤ ws.length) (hw : ∀ x ∈ ws, rg 0 999 x) (ao : AOk ks.length as) : HI (HS.at0 prog as ks ws) := by
  refine ⟨at0_okW pok k6 wok w4 ao, fun k hk => ?_, fun c hc => ?_, fun x hx => (hw x hx).1⟩
  · obtain ⟨k0, hk0, rfl⟩ := List.mem_map.mp hk
    have m := (wok k0 hk0).m.1
    exact ⟨⟨fun _ => rfl, fun z => by cases z⟩, by show 0 < k0.many; omega, fun x hx => by cases hx⟩
  · have hc : c ∈ [(0 : Int), 0, 0, 0] := hc
    simp at hc
    omega
theorem at0_hi {prog : List Row} {ks : List Wk} {ws : List Int} {as : List (Int × Int)} (pok : ∀ r ∈ prog, r.ok prog.length) (k6 : ks.length ≤ 6) (wok : ∀ k ∈ ks, WOk ks.length k) (w4 : 4 ≤ ws.length) (hw : ∀ x ∈ ws, rg 0 999 x) (ao : AOk ks.length as) : HI (HS.at0 prog as ks ws) := at0_hiW (fun r hr => (pok r hr).w) k6 wok w4 hw ao
theorem new_ft {sd wl : Addr} {k : Ls} {rs ts qs : List Addr} {mem asks : List V} {n : Nat} (N : NW H H' (lsNew sd k mem asks n)) : ∀ b ∈ Ls.ft sd k ⟨rs, ts, qs, [], [], []⟩, b ≠ k.works → H b = none := fun b hb hw => by
  have nw := N.new
  simp only [lsNew, List.mem_cons, List.not_mem_nil, or_false, forall_eq_or_imp, forall_eq] at nw
  obtain ⟨n1, n2, n3, n4, n5, n6, n7, n8, n9⟩ := nw
  unfold Ls.ft at hb
  rw [List.map_nil, List.append_nil] at hb
  simp only [List.mem_cons, List.not_mem_nil, or_false] at hb
  rcases hb with rfl | rfl | rfl | rfl | rfl | rfl | rfl | rfl | rfl | rfl
  · exact n9
  · exact n8
  · exact n6
  · exact n5
  · exact n3
  · exact n1
  · exact n2
  · exact n4
  · exact n7
  · exact absurd rfl hw
end
theorem beats_after (s : HS) : ∀ n, (s.after n).beats = s.beats + n
  | 0 => by show s.beats = s.beats + 0; omega
  | n + 1 => by
    show (s.after n).beats + 1 = _
    rw [beats_after s n]
    omega
theorem lafter_len (s : HS) (g : LG) : ∀ n, (s.lafter g n).laid.length ≤ g.laid.length + n ∧ (s.lafter g n).pairs.length ≤ g.pairs.length + n
  | 0 => ⟨Nat.le_refl _, Nat.le_refl _⟩
  | n + 1 => by
    obtain ⟨h1, h2⟩ := lafter_len s g n
    have step : ∀ (s : HS) (g : LG), (LG.next s g).laid.length ≤ g.laid.length + 1 ∧ (LG.next s g).pairs.length ≤ g.pairs.length + 1 := fun s g => by
      unfold LG.next
      have fa := asks_laid (b := s.beats) (as := s.asks) (ks := s.ks) (g := g)
      have fd := dev_half (g := g.asks s.beats s.ks s.asks) (ks := askAll s.beats s.ks s.asks) (took := s.took) (wanted := (wantedOf s.prog s.S).isSome) (ms := s.S.marks) (ws := s.ws) (n := s.beats)
      generalize (g.asks s.beats s.ks s.asks).dev (askAll s.beats s.ks s.asks) s.took (wantedOf s.prog s.S).isSome s.S.marks s.ws s.beats = g2 at fd
      have eL : ∀ g1 : LG, ∀ r ks row when, ((g1.fin row when).eff ks r).laid = g1.laid ∧ ((g1.fin row when).eff ks r).pairs = g1.pairs := fun g1 r ks row when => by
        have e1 : (g1.fin row when).laid = g1.laid ∧ (g1.fin row when).pairs = g1.pairs := by
          unfold LG.fin
          split <;> exact ⟨rfl, rfl⟩
        cases r <;> first | exact e1 | (obtain ⟨j1, j2, _⟩ := start_laid (g := g1.fin row when) (ks := ks) (n := (_ : Int).toNat); exact ⟨j1.trans e1.1, j2.trans e1.2⟩)
      have tL : ∀ (r : Row) (S : MS) (ws : List Int) (when : Int), (g2.touch r S ws when).laid = g2.laid ∧ (g2.touch r S ws when).pairs.length ≤ g2.pairs.length + 1 := fun r S ws when => by
        cases r with
        | pair a b =>
          show (if S.spent = 1 then _ else _ : LG).laid = _ ∧ (if S.spent = 1 then _ else _ : LG).pairs.length ≤ _
          split
          · exact ⟨rfl, by show (g2.pairs ++ _).length ≤ _; rw [List.length_append]; exact Nat.le_refl _⟩
          · exact ⟨rfl, Nat.le_succ _⟩
        | _ => exact ⟨rfl, Nat.le_succ _⟩
      unfold LG.mst
      cases s.prog[s.S.row.toNat]? with
      | none =>
        refine ⟨?_, ?_⟩
        · show g2.laid.length ≤ _; have := fd.2.2.2; rw [fa.1] at this; exact this
        · show g2.pairs.length ≤ _; rw [fd.2.1, fa.2.1]; exact Nat.le_succ _
      | some r =>
        dsimp only
        have l2 : g2.laid.length ≤ g.laid.length + 1 := by have := fd.2.2.2; rw [fa.1] at this; exact this
        have p2 : g2.pairs.length = g.pairs.length := by rw [fd.2.1, fa.2.1]
        split
        · exact ⟨l2, by rw [p2]; exact Nat.le_succ _⟩
        · have t := tL r s.S s.dm.2.2.1 s.beats
          split
          · rw [(eL _ _ _ _ _).1, (eL _ _ _ _ _).2]
            split
            · exact ⟨by rw [t.1]; exact l2, by have := t.2; omega⟩
            · exact ⟨l2, by rw [p2]; exact Nat.le_succ _⟩
          · split
            · exact ⟨by rw [t.1]; exact l2, by have := t.2; omega⟩
            · exact ⟨l2, by rw [p2]; exact Nat.le_succ _⟩
    have h3 := step (s.after n) (s.lafter g n)
    show (LG.next (s.after n) (s.lafter g n)).laid.length ≤ _ ∧ (LG.next (s.after n) (s.lafter g n)).pairs.length ≤ _
    omega
end SB

set_option Elab.async false
set_option linter.all false
set_option maxRecDepth 100000
set_option maxHeartbeats 4000000
namespace SB
open PySem PySem.Spec PyProof.Rows L2 LamX
theorem viaV {te : TE} {σ : L2.St} {H : Hp} {Q : VK} {v : V} (h : ∀ Q' : VK, Q' v H → te σ H Q') (q : Q v H) : te σ H Q := h Q q
section
variable {P : Program} {w : World} {K : PySem.W.Frag} {mg : Str → Option Value} {base : Heap}
theorem okx {x qual : Str} {params : Arguments} {body : List Stmt} {scope : Scope} {f : Addr} {fd : FuncData} {N ps : List Str} {k : Nat} {sp : Sp} (F : FunD K x qual params body scope [] [] f fd) (S : FnScope N ps scope)
    (len : ∀ vs H Q E, sp vs H Q E → vs.length = ps.length)
    (hbody : ∀ (cdv : Value) (A : Around) (outer : List Env) (s : Shared) (H : Hp) (vs : List V) (Q : VK) (E : XK), Room k (A.deeper (envOfC qual scope s.heap.objs.size f cdv)) → sp vs H Q E →
      ∃ t, PSs (cxOf CX0 P w K mg base N qual scope f cdv A outer s H E).nox body t ∧ t { nx := fun _ H' => Q .non H', rt := Q } (start N vs) H) : FnOk P w K mg base CX0 (k + 1) f fd ps sp := by
  refine F.ok (CX := CX0) S len (fun cdv A outer s H vs Q E hr hs => ?_)
  obtain ⟨t, h1, h2⟩ := hbody cdv A outer s H vs Q E hr hs
  exact ⟨t, h1.nox, h2⟩
theorem DiceAt.inD {H : Hp} {d sl : Addr} {f p : Int} {cs : List Int} (D : DiceAt H d sl f p cs) : ∀ b ∈ [d, sl], ∃ u, H b = some u ∧ notTup u = true := fun b hb => by
  have e : b = d ∨ b = sl := by simpa using hb
  rcases e with rfl | rfl
  · exact ⟨_, D.ob, rfl⟩
  · exact ⟨_, D.ls, rfl⟩
theorem TupsAt.works {H : Hp} {wl : Addr} {ts : List Addr} {ks : List Wk} (t : TupsAt H wl ts (ks.map Wk.vs)) : WorksAt K H wl ts ks :=
  ⟨SqL.of t.lst, by rw [t.len, List.length_map], fun j p k e1 e2 => SqT.of (t.at_ j p _ e1 (by rw [List.getElem?_map, e2]; rfl))⟩
theorem TupsAt.asks {H : Hp} {al : Addr} {qs : List Addr} {as : List (Int × Int)} (t : TupsAt H al qs (as.map puV)) : AsksAt K H al qs as :=
  ⟨SqL.of t.lst, by rw [t.len, List.length_map], fun j p x e1 e2 => SqT.of (t.at_ j p _ e1 (by rw [List.getElem?_map, e2]; rfl))⟩
end
theorem sm_ints (ns : List Int) (h : ns.length ≤ 1000) : Sm (.list (pyInts ns)) := .lst (by unfold pyInts; rw [List.length_map]; exact h) (fun d hd => by
  obtain ⟨i, _, rfl⟩ := List.mem_map.mp hd
  exact .int i)
theorem sm_dT (t : Option (Int × Str × Int × Int)) : Sm (dT t) := by
  cases t with
  | none => exact .non
  | some z =>
    obtain ⟨a, b, c, e⟩ := z
    refine .tup (by show (4 : Nat) ≤ 1000; decide) (fun d hd => ?_)
    simp only [List.mem_cons, List.not_mem_nil, or_false] at hd
    rcases hd with rfl | rfl | rfl | rfl
    · exact .int _
    · exact .str _
    · exact .int _
    · exact .int _
theorem sm_dM (t : MT) : Sm (dM t) := by
  cases t with
  | word z a x =>
    refine .tup (by show (3 : Nat) ≤ 1000; decide) (fun d hd => ?_)
    simp only [List.mem_cons, List.not_mem_nil, or_false] at hd
    rcases hd with rfl | rfl | rfl
    · exact .str _
    · exact .int _
    · exact .int _
  | ends => exact .str _
  | waits => exact .str _
  | goes => exact .str _
theorem sm_dE (e : BeatE) : Sm (dE e) := by
  refine .tup (by show 2 ≤ 1000; decide) (fun d hd => ?_)
  simp only [List.mem_cons, List.not_mem_nil, or_false] at hd
  rcases hd with rfl | rfl
  · exact sm_dT _
  · exact sm_dM _
theorem sm_map {α : Type} {f : α → PyData} {xs : List α} (h : xs.length ≤ 1000) (g : ∀ x ∈ xs, Sm (f x)) : Sm (.list (xs.map f)) := .lst (by rw [List.length_map]; exact h) (fun d hd => by
  obtain ⟨i, hi, rfl⟩ := List.mem_map.mp hd
  exact g i hi)
theorem sm_dSh {s : HS} (hc : s.S.cells.length ≤ 1000) (hw : s.ws.length ≤ 1000) (hm : s.S.marks.length ≤ 1000) (hg : (goFrom 0 s.ks).length ≤ 1000) : Sm (dSh s) := by
  refine .tup (by show 6 ≤ 1000; decide) (fun d hd => ?_)
  simp only [List.mem_cons, List.not_mem_nil, or_false] at hd
  rcases hd with rfl | rfl | rfl | rfl | rfl | rfl
  · exact .int _
  · unfold rowD; split
    · exact .non
    · exact .int _
  · exact sm_ints _ hc
  · exact sm_ints _ hw
  · exact sm_map hm (fun x _ => .bl x)
  · refine sm_map hg (fun x _ => .tup (by show 3 ≤ 1000; decide) (fun d hd => ?_))
    simp only [List.mem_cons, List.not_mem_nil, or_false] at hd
    rcases hd with rfl | rfl | rfl
    · exact .int _
    · exact .int _
    · exact .bl _
theorem sm_dRun {es : List BeatE} {s : HS} (he : es.length ≤ 1000) (h : Sm (dSh s)) : Sm (dRun es s) := by
  refine .tup (by show 2 ≤ 1000; decide) (fun d hd => ?_)
  simp only [List.mem_cons, List.not_mem_nil, or_false] at hd
  rcases hd with rfl | rfl
  · exact sm_map he (fun x _ => sm_dE x)
  · exact h
theorem next_len {s : HS} : s.next.ws.length = s.ws.length ∧ s.next.ks.length = s.ks.length := by
  constructor
  · show s.ms.2.2.1.length = _
    unfold HS.ms
    rw [mstep_len.2]
    unfold HS.dm
    rw [devMove_len.2]
  · show s.ms.2.1.length = _
    unfold HS.ms
    rw [mstep_len.1]
    unfold HS.dm
    rw [devMove_len.1, askAll_len]
theorem after_len (s : HS) : ∀ n, (s.after n).ws.length = s.ws.length ∧ (s.after n).ks.length = s.ks.length
  | 0 => ⟨rfl, rfl⟩
  | n + 1 => by
    obtain ⟨h1, h2⟩ := after_len s n
    have h := next_len (s := s.after n)
    exact ⟨h.1.trans h1, h.2.trans h2⟩
theorem sm_shown {s : HS} (O : HOk s) (w : s.ws.length ≤ 32) : Sm (dSh s) := sm_dSh (by rw [O.m.c4]; decide) (by omega) (by rw [O.m.m3]; decide) (by have := goFrom_len 0 s.ks; have := O.l6; omega)
section
variable {K : PySem.W.Frag} {H H' : Hp} {d sl : Addr} {f p : Int} {cs : List Int}
theorem DiceAt.ext (D : DiceAt H d sl f p cs) (x : ExtN H H') : DiceAt H' d sl f p cs := ⟨x _ _ D.ob nt_lst, x _ _ D.ls nt_lst, D.f0, D.f1, D.p0, D.ne⟩
theorem TupsAt.ext {D : Addr} {ps : List Addr} {vss : List (List V)} (h : TupsAt H D ps vss) (x : ExtN H H') : TupsAt H' D ps vss := ⟨x _ _ h.lst nt_lst, h.len, fun j q us e1 e2 => x _ _ (h.at_ j q us e1 e2) nt_tup⟩
theorem TupsAt.kept {D : Addr} {ps : List Addr} {vss : List (List V)} {as : List Addr} (h : TupsAt H D ps vss) (k : Kept as H H') (hD : D ∉ as) (hn : ∀ b ∈ as, ∃ u, H b = some u ∧ notTup u = true) : TupsAt H' D ps vss := ⟨k _ _ h.lst hD, h.len, fun j q us e1 e2 => k _ _ (h.at_ j q us e1 e2) (fun z => by
  obtain ⟨u, hu, nt⟩ := hn q z
  rw [h.at_ j q us e1 e2] at hu
  cases hu
  cases nt)⟩
def oDt : Option Int → PyData
  | none => .none
  | some i => .int i
def dWk (k : Wk) : PyData := .tuple [.int k.begin, .int k.goal, .int k.many, .int k.block, .str k.greed, oDt k.mark, oDt k.follow]
def dAk (a : Int × Int) : PyData := .tuple [.int a.1, .int a.2]
theorem dp_oV (o : Option Int) : Dp K H (oV o) (oDt o) := by
  cases o with
  | none => exact .non
  | some i => exact .int i
theorem TupsAt.dpW {wl : Addr} {ts : List Addr} {ks : List Wk} (t : TupsAt H wl ts (ks.map Wk.vs)) {l : Addr} (hl : H l = some (.lst (ts.map V.ref))) : Dp K H (.ref l) (.list (ks.map dWk)) := by
  refine .lst (SqL.of hl) (dpAll_of ts ks (by rw [t.len, List.length_map]) (fun j p e h1 h2 => ?_))
  have h3 := t.at_ j p e.vs h1 (by rw [List.getElem?_map, h2]; rfl)
  exact .tup (SqT.of h3) (.cons (.int _) (.cons (.int _) (.cons (.int _) (.cons (.int _) (.cons (.str _) (.cons (dp_oV _) (.cons (dp_oV _) .nil)))))))
theorem TupsAt.dpA {al : Addr} {qs : List Addr} {as : List (Int × Int)} (t : TupsAt H al qs (as.map puV)) {l : Addr} (hl : H l = some (.lst (qs.map V.ref))) : Dp K H (.ref l) (.list (as.map dAk)) := by
  refine .lst (SqL.of hl) (dpAll_of qs as (by rw [t.len, List.length_map]) (fun j p e h1 h2 => ?_))
  have h3 := t.at_ j p (puV e) h1 (by rw [List.getElem?_map, h2]; rfl)
  exact .tup (SqT.of h3) (.cons (.int _) (.cons (.int _) .nil))
theorem dWk_lay {k : Wk} (h : k.greed = "all" ∨ k.greed = "turn" ∨ k.greed = "idle") : PyData.canLay0 (dWk k) = true := by
  unfold dWk
  rcases h with h | h | h <;> rw [h] <;> cases k.mark <;> cases k.follow <;> kernel_rfl
theorem dWk_deep (k : Wk) : PyData.depth (dWk k) ≤ 1 := by
  unfold dWk
  cases k.mark <;> cases k.follow <;> exact Nat.le_refl _
def dHd (ks : List Wk) (ws : List Int) (as : List (Int × Int)) : PyData := .tuple [.list (ks.map dWk), .list (pyInts ws), .list (as.map dAk)]
theorem dHd_shaped {ks : List Wk} (ws : List Int) (as : List (Int × Int)) (h : ∀ k ∈ ks, k.greed = "all" ∨ k.greed = "turn" ∨ k.greed = "idle") : SeqAt.shaped (dHd ks ws as) = true := by
  have h1 := lay_all (f := dWk) ks (fun x hx => dWk_lay (h x hx))
  have h2 := deep_all (f := dWk) (n := 1) dWk_deep ks
  have g1 := lay_all (f := dAk) as (fun x _ => rfl)
  have g2 := deep_all (f := dAk) (n := 1) (fun x => Nat.le_refl _) as
  have w1 := canLay_ints ws
  have w2 := depth_ints ws
  show ((PyData.canLayAll0 (ks.map dWk) && (PyData.canLayAll0 (pyInts ws) && (PyData.canLayAll0 (as.map dAk) && true))) && decide (max (PyData.depthAll (ks.map dWk) + 1) (max (PyData.depthAll (pyInts ws) + 1) (max (PyData.depthAll (as.map dAk) + 1) 0)) + 1 ≤ 64)) = true
  rw [h1, g1, w1, decide_eq_true (by omega)]
  rfl
end
theorem walk_ofTE {l : PySem.W.OpenLaw} {n k : Nat} {q : Program} {loose : List Str} {XP : (Str → Option Value) → Heap → Prop} {YP : World → Heap → Prop} {dr : DefRec} {x : Str} (h1 : l.most = some n) (h2 : n ≤ sizeLine) (h3 : dr.params.defaults = []) (h4 : Room k callerA)
    (hF : ∀ (w : World) (mg : Str → Option Value) (fa : Addr) (hp : Heap), YP w hp → hp.Ns mainGlobals mg → mg dr.name = some (.ref fa) → ∃ K : PySem.W.Frag, K.In hp ∧ LawAtS l w K CX0 k n x mg fa hp) : PySem.W.WalkO q loose XP YP l.row.toRowW dr [] (fun f vs => PySem.call f vs) := by
  refine Att.attach_callB h1 h3 ?_
  intro w s₀ s₁ mg mb fa o pm cd doc a vs ns G Y _ _ _ hmg hob hin hle hbi hge
  obtain ⟨K, KX, fd, cs, sp, a1, a2, a3, a4, a5, a6⟩ := hF w mg fa _ Y G.T.g hmg
  refine law_callTs KX G.T.g G.T.b G.T.builtins G.T.nolimit hge a1 a2 a3 G.T.bmain hob hin (Nat.le_trans hle h2) h4 a6 a4 (fun H hH hS => a5 H a ns hle hbi hH hS) ?_
  exact fun _ _ _ z => z
end SB

set_option Elab.async false
set_option linter.all false
set_option maxRecDepth 100000
set_option maxHeartbeats 4000000
namespace SB
open PySem L2
section
variable {K : PySem.W.Frag} {H H' : Hp} {la : Addr} {kvs : List (Key × V)}
theorem sql_kept (k : Kept [la] H H') (hl : H la = some (.dK kvs)) {a : Addr} {xs : List V} (h : SqL K H a xs) : SqL K H' a xs := by
  rcases h with (h | ⟨o, h⟩) | h
  · exact .inl (.inl (k _ _ h (by
      have : a ≠ la := ne_of h hl (by intro z; cases z)
      simpa using this)))
  · exact .inl (.inr ⟨o, k _ _ h (by
      have : a ≠ la := ne_of h hl (by intro z; cases z)
      simpa using this)⟩)
  · exact .inr h
theorem sqt_kept (k : Kept [la] H H') (hl : H la = some (.dK kvs)) {a : Addr} {xs : List V} (h : SqT K H a xs) : SqT K H' a xs := by
  rcases h with (h | ⟨o, h⟩) | h
  · exact .inl (.inl (k _ _ h (by
      have : a ≠ la := ne_of h hl (by intro z; cases z)
      simpa using this)))
  · exact .inl (.inr ⟨o, k _ _ h (by
      have : a ≠ la := ne_of h hl (by intro z; cases z)
      simpa using this)⟩)
  · exact .inr h
mutual
theorem dp_kept (k : Kept [la] H H') (hl : H la = some (.dK kvs)) : ∀ {v : V} {d : PyData}, Dp K H v d → Dp K H' v d
  | _, _, .non => .non
  | _, _, .bl b => .bl b
  | _, _, .int i => .int i
  | _, _, .str x => .str x
  | _, _, .lst h t => .lst (sql_kept k hl h) (dpAll_kept k hl t)
  | _, _, .tup h t => .tup (sqt_kept k hl h) (dpAll_kept k hl t)
theorem dpAll_kept (k : Kept [la] H H') (hl : H la = some (.dK kvs)) : ∀ {vs : List V} {ds : List PyData}, DpAll K H vs ds → DpAll K H' vs ds
  | _, _, .nil => .nil
  | _, _, .cons h t => .cons (dp_kept k hl h) (dpAll_kept k hl t)
end
end
theorem dp_tup_inv {K : PySem.W.Frag} {H : Hp} {v : V} {ds : List PyData} (h : Dp K H v (.tuple ds)) : ∃ a xs, v = .ref a ∧ SqT K H a xs ∧ DpAll K H xs ds := by
  cases h with
  | tup h1 h2 => exact ⟨_, _, rfl, h1, h2⟩
section
variable {K : PySem.W.Frag} {σ : L2.St} {H : Hp}
def Ev (K : PySem.W.Frag) (te : TE) (σ : L2.St) (H : Hp) (d : PyData) : Prop := ∀ (H1 : Hp) (Q : VK), Same H H1 → (∀ v H2, Dp K H2 v d → Same H1 H2 → Q v H2) → te σ H1 Q
def EvA (K : PySem.W.Frag) (t : TA) (σ : L2.St) (H : Hp) (ds : List PyData) : Prop := ∀ (H1 : Hp) (Q : List V → Hp → Prop), Same H H1 → (∀ vs H2, DpAll K H2 vs ds → Same H1 H2 → Q vs H2) → t σ H1 Q
def EvL (K : PySem.W.Frag) (te : TE) (σ : L2.St) (H : Hp) (ds : List PyData) : Prop := ∀ (H1 : Hp) (Q : VK), Same H H1 → (∀ a xs H2, H2 a = some (.lst xs) → DpAll K H2 xs ds → Same H1 H2 → Q (.ref a) H2) → te σ H1 Q
theorem EvL.ev {te : TE} {ds : List PyData} (h : EvL K te σ H ds) : Ev K te σ H (.list ds) := fun H1 Q s q => h H1 Q s fun a xs H2 e d s2 => q _ _ (.lst (SqL.of e) d) s2
theorem ev_int (i : Int) : Ev K (tC (.int i)) σ H (.int i) := fun H1 Q s q => q _ _ (.int i) (Same.refl _)
theorem ev_str (z : Str) : Ev K (tC (.str z)) σ H (.str z) := fun H1 Q s q => q _ _ (.str z) (Same.refl _)
theorem ev_non : Ev K (tC .non) σ H .none := fun H1 Q s q => q _ _ .non (Same.refl _)
theorem ev_bl (b : Bool) : Ev K (tC (.bl b)) σ H (.bool b) := fun H1 Q s q => q _ _ (.bl b) (Same.refl _)
theorem ev_var {i : Nat} {v : V} {d : PyData} (h : σ[i]? = some (some v)) (hd : Dp K H v d) : Ev K (tVar i) σ H d := fun H1 Q s q => ⟨v, h, q _ _ (dp_same s hd) (Same.refl _)⟩
theorem ev_varL {i : Nat} {a : Addr} {xs : List V} {ds : List PyData} (h : σ[i]? = some (some (.ref a))) (ha : H a = some (.lst xs)) (hd : DpAll K H xs ds) : EvL K (tVar i) σ H ds := fun H1 Q s q => ⟨_, h, q _ xs _ (s _ _ ha) (dpAll_same s hd) (Same.refl _)⟩
theorem eva_nil : EvA K tNil σ H [] := fun H1 Q s q => q _ _ .nil (Same.refl _)
theorem eva_cons {te : TE} {t : TA} {d : PyData} {ds : List PyData} (h : Ev K te σ H d) (h2 : EvA K t σ H ds) : EvA K (tCons te t) σ H (d :: ds) := fun H1 Q s q => h H1 _ s fun v H2 hd s2 => h2 H2 _ (s.trans s2) fun vs H3 hds s3 => q _ _ (.cons (dp_same s3 hd) hds) (s2.trans s3)
theorem dpAll_of26 {H : Hp} : ∀ {xs : List V} {ds : List PyData}, xs.length = ds.length → (∀ (j : Nat) (v : V) (d : PyData), xs[j]? = some v → ds[j]? = some d → Dp K H v d) → DpAll K H xs ds
  | [], [], _, _ => .nil
  | [], _ :: _, h, _ => by simp at h
  | _ :: _, [], h, _ => by simp at h
  | x :: r, d :: ds, h, f => .cons (f 0 x d rfl rfl) (dpAll_of26 (by simpa using h) (fun j v e h1 h2 => f (j + 1) v e h1 h2))
theorem dpAll_len {xs : List V} {ds : List PyData} {H : Hp} (h : DpAll K H xs ds) : xs.length = ds.length := (dpAll_at h).1
theorem ev_tup {t : TA} {ds : List PyData} (h : EvA K t σ H ds) (hl : ds.length ≤ 1000) : Ev K (tTup t) σ H (.tuple ds) := fun H1 Q s q => h H1 _ s fun vs H2 hds s2 => ⟨by rw [dpAll_len hds]; exact Nat.le_trans hl (by decide), fun p np => by
  have s3 : Same H2 (upd H2 p (.tup vs)) := Same.new (Same.refl _) np
  exact q _ _ (.tup (SqT.of upd_same) (dpAll_same s3 hds)) (s2.trans s3)⟩
theorem ev_lst {t : TA} {ds : List PyData} (h : EvA K t σ H ds) (hl : ds.length ≤ 1000) : EvL K (tLst t) σ H ds := fun H1 Q s q => h H1 _ s fun vs H2 hds s2 => ⟨by rw [dpAll_len hds]; exact Nat.le_trans hl (by decide), fun p np => by
  have s3 : Same H2 (upd H2 p (.lst vs)) := Same.new (Same.refl _) np
  exact q _ _ _ upd_same (dpAll_same s3 hds) (s2.trans s3)⟩
theorem dpAll_app {xs ys : List V} {ds es : List PyData} (h : DpAll K H xs ds) (h2 : DpAll K H ys es) : DpAll K H (xs ++ ys) (ds ++ es) := by
  induction xs generalizing ds with
  | nil =>
    cases h
    exact h2
  | cons x r ih =>
    cases h with
    | cons a b => exact .cons a (ih b)
theorem dpAll_take {xs : List V} {ds : List PyData} (h : DpAll K H xs ds) (n : Nat) : DpAll K H (xs.take n) (ds.take n) := by
  induction n generalizing xs ds with
  | zero => exact .nil
  | succ n ih =>
    cases h with
    | nil => exact .nil
    | cons a b => exact .cons a (ih b)
theorem dpAll_drop {xs : List V} {ds : List PyData} (h : DpAll K H xs ds) (n : Nat) : DpAll K H (xs.drop n) (ds.drop n) := by
  induction n generalizing xs ds with
  | zero => exact h
  | succ n ih =>
    cases h with
    | nil => exact .nil
    | cons a b => exact ih b
theorem ev_cat {ta tb : TE} {ds es : List PyData} (h : EvL K ta σ H ds) (h2 : EvL K tb σ H es) (hl : ds.length + es.length ≤ 1000) : EvL K (tOp rCat ta tb) σ H (ds ++ es) := fun H1 Q s q => h H1 _ s fun a xs H2 ha hds s2 => h2 H2 _ (s.trans s2) fun b ys H3 hb hes s3 =>
  ⟨a, b, xs, ys, rfl, rfl, s3 _ _ ha, hb, by rw [dpAll_len hds, dpAll_len hes]; exact Nat.le_trans hl (by decide), fun p np => by
    have s4 : Same H3 (upd H3 p (.lst (xs ++ ys))) := Same.new (Same.refl _) np
    exact q _ _ _ upd_same (dpAll_same s4 (dpAll_app (dpAll_same s3 hds) hes)) ((s2.trans s3).trans s4)⟩
def EvI (te : TE) (σ : L2.St) (i : Int) : Prop := ∀ (H1 : Hp) (Q : VK), Q (.int i) H1 → te σ H1 Q
theorem evi_c (i : Int) : EvI (tC (.int i)) σ i := fun H1 Q q => q
theorem evi_var {n : Nat} {i : Int} (h : σ[n]? = some (some (.int i))) : EvI (tVar n) σ i := fun H1 Q q => ⟨_, h, q⟩
theorem evi_add {ta tb : TE} {i j : Int} (h : EvI ta σ i) (h2 : EvI tb σ j) : EvI (tOp (rI0 fun i j => .int (i + j)) ta tb) σ (i + j) := fun H1 Q q => h _ _ (h2 _ _ ⟨_, _, rfl, rfl, q⟩)
theorem EvI.ev {te : TE} {i : Int} (h : EvI te σ i) : Ev K te σ H (.int i) := fun H1 Q s q => h _ _ (q _ _ (.int i) (Same.refl _))
theorem dpAll_rep {x : V} {d : PyData} (h : Dp K H x d) : ∀ n : Nat, DpAll K H (List.replicate n [x]).flatten (List.replicate n d)
  | 0 => .nil
  | n + 1 => by
    rw [List.replicate_succ, List.flatten_cons, List.replicate_succ]
    exact .cons h (dpAll_rep h n)
theorem ev_rep {ta tb : TE} {d : PyData} {n : Nat} (h : EvL K ta σ H [d]) (h2 : EvI tb σ (n : Int)) (hl : n ≤ 1000) : EvL K (tOp rRep ta tb) σ H (List.replicate n d) := fun H1 Q s q => h H1 _ s fun a xs H2 ha hds s2 => h2 _ _ (by
  cases hds with
  | cons hx hn =>
    cases hn
    rename_i x
    refine ⟨a, (n : Int), [x], rfl, rfl, ha, by omega, by omega, ?_, fun p np => ?_⟩
    · show 1 * _ ≤ _
      rw [Int.toNat_natCast, Nat.one_mul]
      exact Nat.le_trans hl (by decide)
    · rw [Int.toNat_natCast]
      have s3 : Same H2 (upd H2 p (.lst (List.replicate n [x]).flatten)) := Same.new (Same.refl _) np
      exact q _ _ _ upd_same (dpAll_rep (dp_same s3 hx) n) (s2.trans s3))
theorem ev_take {te : TE} {ds : List PyData} {n : Nat} (h : EvL K te σ H ds) : EvL K (tSl (rSlL K) te tNoPart (tPart (tC (.int (n : Int))))) σ H (ds.take n) := fun H1 Q s q => h H1 _ s fun a xs H2 ha hds s2 => ⟨_, rfl, a, xs, rfl, SqL.of ha, fun p np => by
  rw [cut_take]
  have s3 : Same H2 (upd H2 p (.lst (xs.take n))) := Same.new (Same.refl _) np
  exact q _ _ _ upd_same (dpAll_same s3 (dpAll_take hds n)) (s2.trans s3)⟩
theorem cut_drop26 {xs : List V} {n : Nat} : cutV xs (some (n : Int)) none = xs.drop n := by
  unfold cutV
  rw [HT.sIx_nat]
  have e : HT.sIx xs.length xs.length none = xs.length := rfl
  rw [e, List.take_of_length_le (by rw [List.length_drop]; omega)]
  by_cases h : n ≤ xs.length
  · rw [Nat.min_eq_left h]
  · rw [Nat.min_eq_right (by omega), List.drop_of_length_le (Nat.le_refl _), List.drop_of_length_le (by omega)]
theorem ev_drop {te : TE} {ds : List PyData} {n : Nat} (h : EvL K te σ H ds) : EvL K (tSl (rSlL K) te (tPart (tC (.int (n : Int)))) tNoPart) σ H (ds.drop n) := fun H1 Q s q => h H1 _ s fun a xs H2 ha hds s2 => ⟨_, rfl, a, xs, rfl, SqL.of ha, fun p np => by
  rw [cut_drop26]
  have s3 : Same H2 (upd H2 p (.lst (xs.drop n))) := Same.new (Same.refl _) np
  exact q _ _ _ upd_same (dpAll_same s3 (dpAll_drop hds n)) (s2.trans s3)⟩
theorem ev_ix {te : TE} {ds : List PyData} {n : Nat} {d : PyData} (h : EvL K te σ H ds) (hd : ds[n]? = some d) : Ev K (tOp (rIxL K) te (tC (.int (n : Int)))) σ H d := fun H1 Q s q => h H1 _ s fun a xs H2 ha hds s2 => by
  obtain ⟨h1, h2⟩ := dpAll_at hds
  have hn : n < xs.length := by
    have := (List.getElem?_eq_some_iff.mp hd).1
    omega
  have hx := List.getElem?_eq_getElem hn
  refine ⟨a, xs, (n : Int), xs[n], rfl, rfl, SqL.of ha, ?_, q _ _ (h2 n _ _ hx hd) s2⟩
  unfold atI
  rw [ix_ok (by omega) (by omega)]
  show xs[((n : Nat) : Int).toNat]? = _
  rw [Int.toNat_natCast]
  exact hx
theorem wipe26 {σ : L2.St} {i : Nat} {x : Option V} : wipe ((wipe σ [i]).set i x) [i] = wipe σ [i] := by
  show ((σ.set i none).set i x).set i none = σ.set i none
  rw [List.set_set, List.set_set]
theorem look26 {σ : L2.St} {i : Nat} {x : Option V} (h : i < σ.length) : ((wipe σ [i]).set i x)[i]? = some x := by
  show ((σ.set i none).set i x)[i]? = _
  rw [List.getElem?_set_self (by rw [List.length_set]; exact h)]
theorem ev_pairs {i : Nat} {ds : List PyData} {z : Str} {te : TE} (h : EvL K te σ H ds) (hj : i < σ.length) (hl : ds.length ≤ 1000) :
    EvL K (tLc (iList K te) (gName i) tYes (tTup (tCons (tVar i) (tCons (tC (.str z)) tNil))) [i]) σ H (ds.map fun d => .tuple [d, .str z]) := fun H1 Q s q => h H1 _ s fun a xs H2 ha hds s2 => ⟨a, rfl, ⟨xs, SqL.of ha⟩, fun R nR => by
    obtain ⟨h1, h2⟩ := dpAll_at hds
    refine lc_list (K := K) (a := a) (xs := xs) (fun i H5 => ∃ ps, TupsAt H5 R ps ((xs.take i).map fun x => [x, .str z]) ∧ Same H2 H5)
      ⟨[], ⟨upd_same, rfl, fun j p vs e => by simp at e⟩, Same.new (Same.refl _) nR⟩ (fun i H5 _ ⟨_, _, s5⟩ => SqL.of (s5 _ _ ha)) ?_ ?_
    · rintro k x H5 hx ⟨ps, T5, s5⟩
      have hk := (List.getElem?_eq_some_iff.mp hx).1
      refine ⟨wipe26, yes ?_⟩
      refine ⟨x, look26 hj, by show 2 ≤ sizeLine; decide, fun p np => ?_⟩
      have s6 : Same H5 (upd H5 p (.tup [x, .str z])) := Same.new (Same.refl _) np
      have hp : upd H5 p (.tup [x, .str z]) p = some (.tup [x, .str z]) := upd_same
      generalize upd H5 p (.tup [x, .str z]) = H6 at s6 hp
      have T6 := T5.keep s6
      refine ⟨_, T6.lst, ?_, ps ++ [p], ?_, ?_⟩
      · rw [List.length_map, T6.len, List.length_map, List.length_take]
        exact Nat.lt_of_le_of_lt (show min k xs.length ≤ 1000 by omega) (by decide)
      · have := T6.push hp
        rw [List.map_append (l₁ := ps)] at this
        rw [List.take_add_one, hx, List.map_append (l₁ := xs.take k)]
        exact this
      · intro b o e
        rw [upd_ne (ne_of_none e nR)]
        exact s6 _ _ (s5 _ _ e)
    · rintro H5 ⟨ps, T5, s5⟩
      rw [List.take_length] at T5
      refine q _ _ _ T5.lst ?_ (s2.trans s5)
      refine dpAll_of26 (by rw [List.length_map, T5.len, List.length_map, List.length_map, h1]) (fun j v d e1 e2 => ?_)
      rw [List.getElem?_map] at e1 e2
      cases hpj : ps[j]? with
      | none => rw [hpj] at e1; cases e1
      | some p =>
        rw [hpj] at e1
        cases e1
        cases hdj : ds[j]? with
        | none => rw [hdj] at e2; cases e2
        | some d0 =>
          rw [hdj] at e2
          cases e2
          have hjx : j < xs.length := by
            have := (List.getElem?_eq_some_iff.mp hdj).1
            omega
          have hx := List.getElem?_eq_getElem hjx
          have ht := T5.at_ j p _ hpj (by rw [List.getElem?_map, hx]; rfl)
          exact .tup (SqT.of ht) (.cons (dp_same s5 (h2 j _ _ hx hdj)) (.cons (.str z) .nil))⟩
theorem ev_dget {n m : Nat} {z : Str} {la A : Addr} {kvs : List (Key × V)} {xs : List V} {ds : List PyData} (h1 : σ[n]? = some (some (.ref la))) (h2 : σ[m]? = some (some (.str z))) (hl : H la = some (.dK kvs)) (hv : valV kvs (.inr z) = some (.ref A)) (hA : H A = some (.lst xs)) (dA : DpAll K H xs ds) : EvL K (tDGet (tVar n) (tVar m)) σ H ds := fun H1 Q s q =>
  ⟨_, h1, _, h2, la, .ref A, rfl, hv ▸ DGet.k (k := .inr z) (s _ _ hl), q A xs H1 (s _ _ hA) (dpAll_same s dA) (Same.refl _)⟩
theorem ev_dgetT {n m : Nat} {z : Str} {la : Addr} {kvs : List (Key × V)} {S : V} {d : PyData} (h1 : σ[n]? = some (some (.ref la))) (h2 : σ[m]? = some (some (.str z))) (hl : H la = some (.dK kvs)) (hv : valV kvs (.inr z) = some S) (dS : Dp K H S d) : Ev K (tDGet (tVar n) (tVar m)) σ H d := fun H1 Q s q =>
  ⟨_, h1, _, h2, la, S, rfl, hv ▸ DGet.k (k := .inr z) (s _ _ hl), q S H1 (dp_same s dS) (Same.refl _)⟩
theorem ev_listof {te : TE} {ds : List PyData} (h : Ev K te σ H (.tuple ds)) : EvL K (tCB (fun xs H Q => ∃ p ys, xs = [.ref p] ∧ (SqL K H p ys ∨ SqT K H p ys) ∧ ∀ l, H l = none → Q (.ref l) (L2.upd H l (.lst ys))) (tCons te tNil)) σ H ds := fun H1 Q s q => h H1 _ s fun v H2 dv s2 => by
  obtain ⟨a, xs, rfl, h1, h2⟩ := dp_tup_inv dv
  refine ⟨a, xs, rfl, .inr h1, fun l nl => ?_⟩
  have s3 : Same H2 (L2.upd H2 l (.lst xs)) := Same.new (Same.refl _) nl
  exact q _ _ _ upd_same (dpAll_same s3 h2) (s2.trans s3)
theorem alike26 {n : Nat} {t1 t2 : TE} {d : PyData} {b u : TS} {D : Ends} (h1 : Ev K t1 σ H d) (h2 : Ev K t2 σ H d) (hs : Sm d) (hd : PyData.depth d ≤ n) (nx : ∀ H', Same H H' → u D σ H') : tIfS (tNot (tB (tCallR (sp_alike K n) (tCons t1 (tCons t2 tNil))))) b u D σ H :=
  h1 H _ (Same.refl H) fun v1 H1 e1 s1 => h2 H1 _ s1 fun v2 H2 e2 s2 => ⟨_, _, d, rfl, dp_same s2 e1, e2, hs, hd, fun H3 s3 => ⟨_, rfl, iteF (nx _ ((s1.trans s2).trans s3))⟩⟩
def isSc : V → Bool
  | .non => true
  | .bl _ => true
  | .int _ => true
  | .str _ => true
  | _ => false
def scD : V → PyData
  | .bl b => .bool b
  | .int i => .int i
  | .str z => .str z
  | _ => .none
theorem dp_sc {v : V} (h : isSc v = true) : Dp K H v (scD v) := by
  cases v <;> first | exact .non | exact .bl _ | exact .int _ | exact .str _ | cases h
theorem dpAll_sc : ∀ {vs : List V}, vs.all isSc = true → DpAll K H vs (vs.map scD)
  | [], _ => .nil
  | v :: r, h => by
    rw [List.all_cons, Bool.and_eq_true] at h
    exact .cons (dp_sc h.1) (dpAll_sc h.2)
theorem tups_sc {R : Addr} {ps : List Addr} {xs : List (List V)} (T : TupsAt H R ps xs) (h : (xs.all fun vs => vs.all isSc) = true) : Dp K H (.ref R) (.list (xs.map fun vs => .tuple (vs.map scD))) := by
  refine .lst (SqL.of T.lst) (dpAll_of26 (by rw [List.length_map, List.length_map, T.len]) (fun j v d e1 e2 => ?_))
  rw [List.getElem?_map] at e1 e2
  cases hp : ps[j]? with
  | none => rw [hp] at e1; cases e1
  | some p =>
    rw [hp] at e1
    cases e1
    cases hx : xs[j]? with
    | none => rw [hx] at e2; cases e2
    | some x =>
      rw [hx] at e2
      cases e2
      exact .tup (SqT.of (T.at_ j p x hp hx)) (dpAll_sc (List.all_eq_true.mp h x (List.mem_of_getElem? hx)))
theorem alikeR26 {n : Nat} {t1 t2 : TE} {d : PyData} {D : Ends} (h1 : Ev K t1 σ H d) (h2 : Ev K t2 σ H d) (hs : Sm d) (hd : PyData.depth d ≤ n) (nx : ∀ H', Same H H' → D.rt (.bl true) H') : tRet (tCallR (sp_alike K n) (tCons t1 (tCons t2 tNil))) D σ H :=
  h1 H _ (Same.refl H) fun v1 H1 e1 s1 => h2 H1 _ s1 fun v2 H2 e2 s2 => ⟨_, _, d, rfl, dp_same s2 e1, e2, hs, hd, fun H3 s3 => nx _ ((s1.trans s2).trans s3)⟩
theorem neD26 {t1 t2 : TE} {d : PyData} {Q : Bool → Hp → Prop} (h1 : Ev K t1 σ H d) (h2 : Ev K t2 σ H d) (hs : SeqAt.shaped d = true) (k : ∀ H', Same H H' → Q false H') : tTest (tOp (rNeD K) t1 t2) σ H Q :=
  h1 H _ (Same.refl H) fun v1 H1 e1 s1 => h2 H1 _ s1 fun v2 H2 e2 s2 => ⟨d, d, dp_same s2 e1, e2, hs, hs, _, rfl, by
    rw [eqv_self hs]
    exact k _ (s1.trans s2)⟩
theorem dp_some {o : Option Int} {i : Int} (h : o = some i) : Dp K H (oV o) (.int i) := by
  rw [h]
  exact .int i
theorem dp_none {o : Option Int} (h : o = none) : Dp K H (oV o) .none := by
  rw [h]
  exact .non
end
end SB

set_option Elab.async false
set_option linter.all false
set_option maxRecDepth 100000
set_option maxHeartbeats 4000000
namespace SB
open PySem PySem.Spec PyProof.Rows L2 StX
def spLaw28 (K : PySem.W.Frag) : Sp := fun vs H Q _ => ∃ (a : Addr) (ns : List Int), vs = [.ref a] ∧ SqL K H a (ns.map V.int) ∧ ns.length ≤ 63 ∧ ∀ H', Q (.bl true) H'
section
variable {P : Program} {w : World} {K : PySem.W.Frag} {mg : Str → Option Value} {base : Heap} {H H' : Hp}
theorem okx28 {x qual : Str} {params : Arguments} {body : List Stmt} {scope : Scope} {f : Addr} {fd : FuncData} {N ps : List Str} {k : Nat} {sp : Sp} (F : FunD K x qual params body scope [] [] f fd) (S : FnScope N ps scope)
    (len : ∀ vs H Q E, sp vs H Q E → vs.length = ps.length)
    (hbody : ∀ (cdv : Value) (A : Around) (outer : List Env) (s : Shared) (H : Hp) (vs : List V) (Q : VK) (E : XK), Room k (A.deeper (envOfC qual scope s.heap.objs.size f cdv)) → sp vs H Q E →
      ∃ t, PSs (cxOf CX0 P w K mg base N qual scope f cdv A outer s H E).nox body t ∧ t { nx := fun _ H' => Q .non H', rt := Q } (start N vs) H) : FnOk P w K mg base CX0 (k + 1) f fd ps sp := by
  refine F.ok (CX := CX0) S len (fun cdv A outer s H vs Q E hr hs => ?_)
  obtain ⟨t, h1, h2⟩ := hbody cdv A outer s H vs Q E hr hs
  exact ⟨t, h1.nox, h2⟩
theorem line_te {σ2 : L2.St} {H3 : Hp} {p : Addr} {r : List V} {z : Str} {i : Nat} {Q' : VK} (hv : ∀ v ∈ V.str z :: r, isPt v) (hl : (V.str z :: r).length ≤ 40) (ne : r ≠ []) (ht : SqT K H3 p r) (h1 : σ2[i]? = some (some (.ref p))) (kk : ∀ H4, Same H3 H4 → Q' (.str (rowT (.str z :: r))) H4) :
    tCallR (sp_l_line K) (tCons (tOp (rCatA K) (tTup (tCons (tC (.str z)) tNil)) (tVar i)) tNil) σ2 H3 Q' := by
  refine ⟨(show 1 ≤ sizeLine by decide), fun t nt => ?_⟩
  have s1 : Same H3 (upd H3 t (.tup [.str z])) := Same.new (Same.refl _) nt
  refine ⟨_, h1, t, p, [.str z], r, rfl, rfl, SqT.of upd_same, Same.tup s1 ht, ?_, fun e => by simp at e, fun _ e => absurd e ne, fun _ _ c nc => ?_⟩
  · rw [List.length_cons] at hl
    exact Nat.le_trans (show 1 + r.length ≤ 40 by omega) (by decide)
  · refine ⟨c, _, rfl, .inl (SqT.of upd_same), hv, hl, fun H4 s4 => kk H4 (fun b o e => s4 _ _ ?_)⟩
    have e1 := s1 _ _ e
    rw [upd_ne (ne_of_none e1 nc)]
    exact e1
def dRow28 (r : Row) : PyData := .tuple (.str r.nm :: r.parts.map fun p => .int p.1)
theorem dp_row28 {t : Addr} {r : Row} (h : SqT K H t r.vs) : Dp K H (.ref t) (dRow28 r) := by
  rw [Row.vs_eq] at h
  refine .tup h (.cons (.str _) ?_)
  generalize r.parts = ps
  induction ps with
  | nil => exact .nil
  | cons x xs ih => exact .cons (.int _) ih
theorem dp_rows28 : ∀ {rs : List Addr} {prog : List Row}, rs.length = prog.length → (∀ (j : Nat) (t : Addr) (r : Row), rs[j]? = some t → prog[j]? = some r → SqT K H t r.vs) → DpAll K H (rs.map V.ref) (prog.map dRow28)
  | [], [], _, _ => .nil
  | t :: rs, r :: prog, hl, h => .cons (dp_row28 (h 0 t r rfl rfl)) (dp_rows28 (by simpa using hl) fun j t r e1 e2 => h (j + 1) t r e1 e2)
  | [], _ :: _, hl, _ => by simp at hl
  | _ :: _, [], hl, _ => by simp at hl
def dAll28 (prog : List Row) (ks : List Wk) (ws : List Int) (as : List (Int × Int)) : PyData := .tuple [.tuple (prog.map dRow28), .list (ks.map dWk), .list (pyInts ws), .list (as.map dAk)]
theorem dp_all28 {t pa wl ml al : Addr} {rs ts qs : List Addr} {prog : List Row} {ks : List Wk} {ws : List Int} {as : List (Int × Int)} (ht : SqT K H t [.ref pa, .ref wl, .ref ml, .ref al]) (Pr : ProgAt K H pa rs prog) (W : TupsAt H wl ts (ks.map Wk.vs)) (M : H ml = some (.lst (ws.map V.int))) (A : TupsAt H al qs (as.map puV)) : Dp K H (.ref t) (dAll28 prog ks ws as) :=
  .tup ht (.cons (.tup Pr.tup (dp_rows28 Pr.len Pr.at_)) (.cons (W.dpW W.lst) (.cons (.lst (SqL.of M) (dp_ints ws)) (.cons (A.dpA A.lst) .nil))))
theorem sm_tup_map {α : Type} {f : α → PyData} {xs : List α} (h : xs.length ≤ 1000) (g : ∀ x ∈ xs, Sm (f x)) : Sm (.tuple (xs.map f)) := .tup (by rw [List.length_map]; exact h) (fun d hd => by
  obtain ⟨x, hx, rfl⟩ := List.mem_map.mp hd
  exact g x hx)
theorem sm_row28 (r : Row) : Sm (dRow28 r) := .tup (by rw [List.length_cons, List.length_map]; have := row_parts_len r; omega) (fun d hd => by
  rcases List.mem_cons.mp hd with rfl | hd
  · exact .str _
  · obtain ⟨x, _, rfl⟩ := List.mem_map.mp hd
    exact .int _)
theorem sm_oDt (o : Option Int) : Sm (oDt o) := by
  cases o with
  | none => exact .non
  | some i => exact .int i
theorem sm_wk28 (k : Wk) : Sm (dWk k) := .tup (by show (7 : Nat) ≤ 1000; decide) (fun d hd => by
  simp only [List.mem_cons, List.not_mem_nil, or_false] at hd
  rcases hd with rfl | rfl | rfl | rfl | rfl | rfl | rfl
  · exact .int _
  · exact .int _
  · exact .int _
  · exact .int _
  · exact .str _
  · exact sm_oDt _
  · exact sm_oDt _)
theorem sm_ak28 (a : Int × Int) : Sm (dAk a) := .tup (by show (2 : Nat) ≤ 1000; decide) (fun d hd => by
  simp only [List.mem_cons, List.not_mem_nil, or_false] at hd
  rcases hd with rfl | rfl <;> exact .int _)
theorem sm_all28 {prog : List Row} {ks : List Wk} {ws : List Int} {as : List (Int × Int)} (h1 : prog.length ≤ 1000) (h2 : ks.length ≤ 1000) (h3 : ws.length ≤ 1000) (h4 : as.length ≤ 1000) : Sm (dAll28 prog ks ws as) := .tup (by show (4 : Nat) ≤ 1000; decide) (fun d hd => by
  simp only [List.mem_cons, List.not_mem_nil, or_false] at hd
  rcases hd with rfl | rfl | rfl | rfl
  · exact sm_tup_map h1 fun x _ => sm_row28 x
  · exact sm_map h2 fun x _ => sm_wk28 x
  · exact sm_ints ws h3
  · exact sm_map h4 fun x _ => sm_ak28 x)
theorem row_deep28 (r : Row) : PyData.depth (dRow28 r) ≤ 1 := by
  have h := deep_all (f := fun p : Int × Str => PyData.int p.1) (n := 0) (fun _ => Nat.le_refl _) r.parts
  show max 0 (PyData.depthAll (r.parts.map fun p => PyData.int p.1)) + 1 ≤ 1
  omega
theorem all_deep28 (prog : List Row) (ks : List Wk) (ws : List Int) (as : List (Int × Int)) : PyData.depth (dAll28 prog ks ws as) ≤ 3 := by
  have h1 := deep_all (f := dRow28) (n := 1) row_deep28 prog
  have h2 := deep_all (f := dWk) (n := 1) dWk_deep ks
  have g2 := deep_all (f := dAk) (n := 1) (fun x => Nat.le_refl _) as
  have w2 := depth_ints ws
  show max (PyData.depthAll (prog.map dRow28) + 1) (max (PyData.depthAll (ks.map dWk) + 1) (max (PyData.depthAll (pyInts ws) + 1) (max (PyData.depthAll (as.map dAk) + 1) 0))) + 1 ≤ 3
  omega
abbrev N28 : List Str := ["_law_script", "_law_d", "_law_turn", "_law_program_here", "_law_memory", "_law_works_here", "_law_asks", "_law_lines", "_law_handed", "_law_text", "_law_again", "_law_found", "_law_part", "_law_work_here", "_law_row_here", "_law_ask"]
theorem ok_law (T : T w K mg) {f : Addr} {fd : FuncData} (F : FunD K "law" "law" (defArgs s_law) (defBody s_law) (defScope s_law) [] [] f fd) : FnOk P w K mg base CX0 7 f fd ["_law_script"] (spLaw28 K) := by
  have F_l_dice : FnR P w K mg base CX0 1 _ _ := ok_l_dice T
  have F_l_program : FnR P w K mg base CX0 3 _ _ := ok_l_program T
  have F_l_words : FnR P w K mg base CX0 2 _ _ := ok_l_words T
  have F_l_works : FnR P w K mg base CX0 3 _ _ := ok_l_works T
  have F_l_asked : FnR P w K mg base CX0 2 _ _ := ok_l_asked T
  have F_l_line : FnR P w K mg base CX0 1 _ _ := ok_l_line T
  have F_written : FnR P w K mg base CX0 6 _ _ := ok_written T
  have F_read : FnR P w K mg base CX0 6 _ _ := ok_read T
  have F_l_alike : FnR P w K mg base CX0 5 _ _ := ok_l_alike T 3
  refine okx28 F sc_law (fun vs H Q E h => ?_) (fun cdv A outer s H vs Q E hr h => ?_)
  · obtain ⟨_, _, rfl, _⟩ := h
    rfl
  · obtain ⟨a, ns, rfl, hS, h63, q⟩ := h
    have hu := hr.units
    refine ⟨_, (pss_cons (ps_set (i := 1) sc_law.nd rfl (Or.inl rfl) (pe_callR F_l_dice (hr.mono (by decide)) rfl T.g_l_dice T.k_l_dice (pa_cons (pv 0) (pa_cons pe_int pa_nil))))
      (pss_cons (ps_for PassesOwn.never rfl (pi_range1 rfl T.u_range (pa_cons pe_int pa_nil)) (pg_name (i := 2) sc_law.nd rfl (Or.inl rfl))
      (pss_cons (ps_par3 rfl sc_law.nd (i := 3) (j := 4) (l := 5) rfl rfl rfl (by decide) (by decide) (by decide) rfl rfl rfl (pa_cons (pe_callR F_l_program (hr.mono (by decide)) rfl T.g_l_program T.k_l_program (pa_cons (pv 1) (pa_cons pe_bl pa_nil))) (pa_cons (pe_callR F_l_words (hr.mono (by decide)) rfl T.g_l_words T.k_l_words (pa_cons (pv 1) pa_nil)) (pa_cons (pe_callR F_l_works (hr.mono (by decide)) rfl T.g_l_works T.k_l_works (pa_cons (pv 1) (pa_cons pe_int pa_nil))) pa_nil))) rfl)
      (pss_cons (ps_set (i := 6) sc_law.nd rfl (Or.inl rfl) (pe_callR F_l_asked (hr.mono (by decide)) rfl T.g_l_asked T.k_l_asked (pa_cons (pv 1) (pa_cons (pe_callB call_len_seq rfl T.u_len PySem.boot_len (pa_cons (pv 5) pa_nil)) pa_nil))))
      (pss_cons (ps_set (i := 7) sc_law.nd rfl (Or.inl rfl) (pe_lst (pa_cons (pe_callR F_l_line (hr.mono (by decide)) rfl T.g_l_line T.k_l_line (pa_cons (pe_op op_cat (pe_lst (pa_cons pe_str pa_nil)) (pv 4)) pa_nil)) pa_nil)))
      (pss_cons (ps_set (i := 7) sc_law.nd rfl (Or.inl rfl) (pe_op op_cat (pv 7) (pe_lc (own := [("_law_work_here", 13)]) (g := gName 13) (tt := tYes) (te := tCallR (sp_l_line K) (tCons (tOp (rCatA K) (tTup (tCons (tC (.str "work")) tNil)) (tVar 13)) tNil)) rfl sc_law.nd (pi_list (pv 5)) (blkOk_by (N := N28) (sc := defScope s_law) (by decide +kernel)) (fun _ _ _ _ _ => pg_name (i := 13) sc_law.nd rfl (Or.inl rfl)) (fun _ _ _ _ _ => pts_nil) (fun _ _ _ _ _ => pe_callR F_l_line (hr.mono (by decide)) rfl T.g_l_line T.k_l_line (pa_cons (pe_op op_catA (pe_tup (pa_cons pe_str pa_nil)) (pv 13)) pa_nil)))))
      (pss_cons (ps_set (i := 7) sc_law.nd rfl (Or.inl rfl) (pe_op op_cat (pe_op op_cat (pv 7) (pe_lc (own := [("_law_row_here", 14)]) (g := gName 14) (tt := tYes) (te := tCallR (sp_l_line K) (tCons (tVar 14) tNil)) rfl sc_law.nd (pi_tup (pv 3)) (blkOk_by (N := N28) (sc := defScope s_law) (by decide +kernel)) (fun _ _ _ _ _ => pg_name (i := 14) sc_law.nd rfl (Or.inl rfl)) (fun _ _ _ _ _ => pts_nil) (fun _ _ _ _ _ => pe_callR F_l_line (hr.mono (by decide)) rfl T.g_l_line T.k_l_line (pa_cons (pv 14) pa_nil)))) (pe_lc (own := [("_law_ask", 15)]) (g := gName 15) (tt := tYes) (te := tCallR (sp_l_line K) (tCons (tOp (rCatA K) (tTup (tCons (tC (.str "at")) tNil)) (tVar 15)) tNil)) rfl sc_law.nd (pi_list (pv 6)) (blkOk_by (N := N28) (sc := defScope s_law) (by decide +kernel)) (fun _ _ _ _ _ => pg_name (i := 15) sc_law.nd rfl (Or.inl rfl)) (fun _ _ _ _ _ => pts_nil) (fun _ _ _ _ _ => pe_callR F_l_line (hr.mono (by decide)) rfl T.g_l_line T.k_l_line (pa_cons (pe_op op_catA (pe_tup (pa_cons pe_str pa_nil)) (pv 15)) pa_nil)))))
      (pss_cons (ps_set (i := 8) sc_law.nd rfl (Or.inl rfl) (pe_tup (pa_cons (pe_callTy call_list_of rfl T.u_list (by decide +kernel) (pa_cons (pv 5) pa_nil)) (pa_cons (pe_callTy call_list_of rfl T.u_list (by decide +kernel) (pa_cons (pv 4) pa_nil)) (pa_cons (pe_callTy call_list_of rfl T.u_list (by decide +kernel) (pa_cons (pv 6) pa_nil)) pa_nil)))))
      (pss_cons (ps_set (i := 9) sc_law.nd rfl (Or.inl rfl) (pe_callR F_written (hr.mono (by decide)) rfl T.g_written T.k_written (pa_cons (pv 3) (pa_cons (pe_ix ix_tup (pv 8) pe_int (fun _ _ => rfl)) (pa_cons (pe_ix ix_tup (pv 8) pe_int (fun _ _ => rfl)) (pa_cons (pe_ix ix_tup (pv 8) pe_int (fun _ _ => rfl)) pa_nil))))))
      (pss_cons (ps_if (PW.pt (pw_or (pt_not (pt_val (pe_callR F_l_alike (hr.mono (by decide)) rfl T.g_l_alike T.k_l_alike (pa_cons (pv 9) (pa_cons (pe_join pe_str (pv 7)) pa_nil))))) (pw_or1 (pt_cmpR (op_neD hu) (pv 8) (pe_tup (pa_cons (pv 5) (pa_cons (pv 4) (pa_cons (pv 6) pa_nil)))) (nomark _)))))
      (pss_one (ps_ret pe_bl))
      pss_nil)
      (pss_one (ps_for PassesOwn.never rfl (pi_range1 rfl T.u_range (pa_cons pe_int pa_nil)) (pg_name (i := 10) sc_law.nd rfl (Or.inl rfl))
      (pss_cons (ps_set (i := 11) sc_law.nd rfl (Or.inl rfl) (pe_callR F_read (hr.mono (by decide)) rfl T.g_read T.k_read (pa_cons (pv 9) pa_nil)))
      (pss_cons (ps_if (pt_not (pt_val (pe_callR F_l_alike (hr.mono (by decide)) rfl T.g_l_alike T.k_l_alike (pa_cons (pv 11) (pa_cons (pe_tup (pa_cons (pv 3) (pa_cons (pv 5) (pa_cons (pv 4) (pa_cons (pv 6) pa_nil))))) pa_nil)))))
      (pss_one (ps_ret pe_bl))
      pss_nil)
      (pss_one (ps_for PassesOwn.never rfl (pi_tup (pe_slice sl_tup (pv 11) (po_some pe_int) po_none)) (pg_name (i := 12) sc_law.nd rfl (Or.inl rfl))
      (pss_one (ps_expr (pe_bm PySem.F.plainAttrs_list PySem.F.slot_list_append PySem.F.type_list_append mt_append (pv 12) (pa_cons pe_int pa_nil)))))))))))))))))))
      (pss_one (ps_ret (pe_cmpR (op_eqD hu) (pe_callR F_read (hr.mono (by decide)) rfl T.g_read T.k_read (pa_cons pe_str pa_nil)) (pe_tup (pa_cons (pe_tup (pa_cons (pe_tup (pa_cons pe_str pa_nil)) pa_nil)) (pa_cons (pe_lst pa_nil) (pa_cons (pe_lst (pa_cons pe_int (pa_cons pe_int (pa_cons pe_int (pa_cons pe_int pa_nil))))) (pa_cons (pe_lst pa_nil) pa_nil))))) (nomark _)))))), ?_⟩
    refine ⟨_, rfl, a, ns, 0, rfl, hS, by decide, by decide, h63, fun G0 d sl f1 D1 nd nsl s0' => ?_⟩
    refine ⟨4, rfl, by decide, by decide, ?_⟩
    refine for_it walk_range (fun i σ H5 => ∃ f p cs v2 v3 v4 v5 v6 v7 v8 v9 v10 v11 v12 v13 v14 v15, σ = [some (.ref a), some (.ref d), v2, v3, v4, v5, v6, v7, v8, v9, v10, v11, v12, v13, v14, v15] ∧ DiceAt H5 d sl f p cs ∧ cs.length ≤ 63)
      ⟨f1, 0, ns, none, none, none, none, none, none, none, none, none, none, none, none, none, none, by kernel_rfl, D1, h63⟩ (fun _ _ _ _ _ => trivial) ?_ ?_
    · rintro i0 x σ G0 G0' hi ⟨f0, p0, cs0, v2, v3, v4, v5, v6, v7, v8, v9, v10, v11, v12, v13, v14, v15, rfl, D0, c0⟩ ⟨rfl, rfl⟩
      refine ⟨_, rfl, d, sl, f0, p0, cs0, false, rfl, D0, c0, fun G1 f1 p1 cs1 pa rs prog D1 c1 k1 npa Pr1 pr0 pr40 prok _ => ?_⟩
      refine ⟨_, rfl, d, sl, f1, p1, cs1, rfl, D1, by omega, fun G2 f2 p2 cs2 ml ws D2 c2 k2 nml hml w4 w32 wok => ?_⟩
      refine ⟨_, rfl, d, sl, f2, p2, cs2, 6, rfl, D2, by omega, by decide, by decide, fun G3 f3 p3 cs3 wl ts ks D3 c3 k3 nwl W3 _ ks6 kok => ?_⟩
      have ks6 : ks.length ≤ 6 := ks6
      have Pr3 := (Pr1.keep k2 D1.inD).keep k3 D2.inD
      have mlD : ml ∉ [d, sl] := D1.ned nml
      have hml3 := k3 _ _ hml mlD
      have wlD : wl ∉ [d, sl] := D2.ned nwl
      refine ⟨_, _, _, rfl, ?_⟩
      refine ⟨_, rfl, _, rfl, _, _, rfl, .inl (SqL.of W3.lst), d, sl, f3, p3, cs3, _, rfl, D3, by omega, by omega, ?_, fun G4 f4 p4 cs4 al qs as D4 c4 k4 nal A4 aok => ?_⟩
      · rw [List.length_map, W3.len, List.length_map]; omega
      rw [List.length_map, W3.len, List.length_map] at aok
      have aok : AOk ks.length as := aok
      have Pr4 := Pr3.keep k4 D3.inD
      have W4 := W3.kept k4 wlD D3.inD
      have hml4 := k4 _ _ hml3 mlD
      dsimp only [gName, List.set]
      show tSeq _ _ _ [some (.ref a), some (.ref d), some (.int (0 + (i0 : Nat))), some (.ref pa), some (.ref ml), some (.ref wl), some (.ref al), v7, v8, v9, v10, v11, v12, v13, v14, v15] G4
      have hrn := rowsV_len (ws := ws) pr40 ks6 aok.len
      have hpt := pt_all pr40 prok ks6 kok wok w32 aok
      have hls : ∀ r ∈ rowsV prog ks ws as, (∀ v ∈ r, isPt v) ∧ r.length ≤ 40 := fun r hr => ⟨(hpt r hr).1, (hpt r hr).2.1⟩
      have mw : (V.str "words" :: ws.map V.int) ∈ rowsV prog ks ws as := by simp [rowsV]
      have mk : ∀ k ∈ ks, wkV k ∈ rowsV prog ks ws as := fun k hk => by
        unfold rowsV
        exact List.mem_append_left _ (List.mem_append_left _ (List.mem_append_right _ (List.mem_map_of_mem hk)))
      have mr : ∀ r ∈ prog, r.vs ∈ rowsV prog ks ws as := fun r hr => by
        unfold rowsV
        exact List.mem_append_left _ (List.mem_append_right _ (List.mem_map_of_mem hr))
      have ma : ∀ x ∈ as, atV x ∈ rowsV prog ks ws as := fun x hx => by
        unfold rowsV
        exact List.mem_append_right _ (List.mem_map_of_mem hx)
      refine ⟨(show 1 ≤ sizeLine by decide), fun z nz => ?_⟩
      have s5 : Same G4 (upd G4 z (.lst [.str "words"])) := Same.new (Same.refl _) nz
      have hz : upd G4 z (.lst [.str "words"]) z = some (.lst [.str "words"]) := upd_same
      generalize upd G4 z (.lst [.str "words"]) = G5 at s5 hz
      refine ⟨_, rfl, z, ml, [.str "words"], ws.map V.int, rfl, rfl, hz, s5 _ _ hml4, ?_, fun c nc => ?_⟩
      · rw [List.length_map]
        exact Nat.le_trans (show 1 + ws.length ≤ 33 by omega) (by decide)
      have s6 : Same G5 (upd G5 c (.lst ([.str "words"] ++ ws.map V.int))) := Same.new (Same.refl _) nc
      have hc : SqL K (upd G5 c (.lst ([.str "words"] ++ ws.map V.int))) c (V.str "words" :: ws.map V.int) := SqL.of upd_same
      generalize upd G5 c (.lst ([.str "words"] ++ ws.map V.int)) = G6 at s6 hc
      refine ⟨c, _, rfl, .inr hc, (hls _ mw).1, (hls _ mw).2, fun G7 s7 => ?_⟩
      refine ⟨(show 1 ≤ sizeLine by decide), fun l1 nl1 => ?_⟩
      have s8 : Same G7 (upd G7 l1 (.lst [.str (rowT (V.str "words" :: ws.map V.int))])) := Same.new (Same.refl _) nl1
      have hl1 : upd G7 l1 (.lst [.str (rowT (V.str "words" :: ws.map V.int))]) l1 = some (.lst [.str (rowT (V.str "words" :: ws.map V.int))]) := upd_same
      dsimp only [gName, List.set]
      show tSeq _ _ _ [some (.ref a), some (.ref d), some (.int (0 + (i0 : Nat))), some (.ref pa), some (.ref ml), some (.ref wl), some (.ref al), some (.ref l1), v8, v9, v10, v11, v12, v13, v14, v15] (upd G7 l1 (.lst [.str (rowT (V.str "words" :: ws.map V.int))]))
      generalize upd G7 l1 (.lst [.str (rowT (V.str "words" :: ws.map V.int))]) = G8 at s8 hl1
      have s48 := ((s5.trans s6).trans s7).trans s8
      have Pr8 := Pr4.same s48
      have W8 := W4.keep s48
      have A8 := A4.keep s48
      have hml8 := s48 _ _ hml4
      have fk : ∀ r ∈ ks.map Wk.vs, (∀ v ∈ V.str "work" :: r, isPt v) ∧ (V.str "work" :: r).length ≤ 40 ∧ r ≠ [] := fun r hr => by
        obtain ⟨k, hk, rfl⟩ := List.mem_map.mp hr
        exact ⟨(hls _ (mk k hk)).1, (hls _ (mk k hk)).2, by simp [Wk.vs]⟩
      have fa : ∀ r ∈ as.map av, (∀ v ∈ V.str "at" :: r, isPt v) ∧ (V.str "at" :: r).length ≤ 40 ∧ r ≠ [] := fun r hr => by
        obtain ⟨k, hk, rfl⟩ := List.mem_map.mp hr
        exact ⟨(hls _ (ma k hk)).1, (hls _ (ma k hk)).2, by simp [av]⟩
      refine sasg28 ?_
      refine ⟨_, rfl, ?_⟩
      refine lines_lcL (K := K) (i := 13) (a := wl) (ps := ts) (rows := ks.map Wk.vs) (f := fun r => rowT (.str "work" :: r)) (σ := [some (.ref a), some (.ref d), some (.int (0 + (i0 : Nat))), some (.ref pa), some (.ref ml), some (.ref wl), some (.ref al), some (.ref l1), v8, v9, v10, v11, v12, v13, v14, v15]) (by show 13 < 16; decide) (fun R h => ⟨_, rfl, wl, rfl, ⟨_, SqL.of W8.lst⟩, h⟩) (SqL.of W8.lst) W8.rws (by rw [List.length_map]; omega) (fun σ2 H3 p r Q' hr ht h1 kk => line_te (fk r hr).1 (fk r hr).2.1 (fk r hr).2.2 ht h1 kk) (fun G9 R1 hR1 s9 => ?_)
      refine ⟨l1, R1, _, _, rfl, rfl, s9 _ _ hl1, hR1, ?_, fun l2 nl2 => ?_⟩
      · rw [List.length_map, List.length_map, List.length_map]
        exact Nat.le_trans (show 1 + ks.length ≤ 7 by omega) (by decide)
      have s10 : Same G9 (upd G9 l2 (.lst ([V.str (rowT (V.str "words" :: ws.map V.int))] ++ ((ks.map Wk.vs).map fun r => rowT (.str "work" :: r)).map V.str))) := Same.new (Same.refl _) nl2
      have hl2 : upd G9 l2 (.lst ([V.str (rowT (V.str "words" :: ws.map V.int))] ++ ((ks.map Wk.vs).map fun r => rowT (.str "work" :: r)).map V.str)) l2 = some (.lst ([V.str (rowT (V.str "words" :: ws.map V.int))] ++ ((ks.map Wk.vs).map fun r => rowT (.str "work" :: r)).map V.str)) := upd_same
      dsimp only [gName, List.set]
      show tSeq (tAsg _ _) _ _ [some (.ref a), some (.ref d), some (.int (0 + (i0 : Nat))), some (.ref pa), some (.ref ml), some (.ref wl), some (.ref al), some (.ref l2), v8, v9, v10, v11, v12, v13, v14, v15] (upd G9 l2 (.lst ([V.str (rowT (V.str "words" :: ws.map V.int))] ++ ((ks.map Wk.vs).map fun r => rowT (.str "work" :: r)).map V.str)))
      generalize upd G9 l2 (.lst ([V.str (rowT (V.str "words" :: ws.map V.int))] ++ ((ks.map Wk.vs).map fun r => rowT (.str "work" :: r)).map V.str)) = G10 at s10 hl2
      have s810 := s9.trans s10
      have Pr10 := Pr8.same s810
      refine sasg28 ?_
      refine ⟨_, rfl, ?_⟩
      refine lines_lcT (K := K) (i := 14) (a := pa) (ps := rs) (rows := prog.map Row.vs) (f := rowT) (σ := [some (.ref a), some (.ref d), some (.int (0 + (i0 : Nat))), some (.ref pa), some (.ref ml), some (.ref wl), some (.ref al), some (.ref l2), v8, v9, v10, v11, v12, v13, v14, v15]) (by show 14 < 16; decide) (fun R h => ⟨_, rfl, pa, rfl, ⟨_, Pr10.tup⟩, h⟩) Pr10.tup Pr10.rws (by rw [List.length_map]; omega) (fun σ2 H3 p r Q' hr ht h1 kk => ?_) (fun G11 R2 hR2 s11 => ?_)
      · obtain ⟨x, hx, rfl⟩ := List.mem_map.mp hr
        exact ⟨_, h1, p, _, rfl, .inl ht, (hls _ (mr x hx)).1, (hls _ (mr x hx)).2, kk⟩
      refine ⟨l2, R2, _, _, rfl, rfl, s11 _ _ hl2, hR2, ?_, fun l3 nl3 => ?_⟩
      · rw [List.length_append, List.length_map, List.length_map, List.length_map, List.length_map, List.length_map, List.length_map]
        exact Nat.le_trans (show 1 + ks.length + prog.length ≤ 47 by omega) (by decide)
      generalize hLL : [V.str (rowT (V.str "words" :: ws.map V.int))] ++ ((ks.map Wk.vs).map fun r => rowT (.str "work" :: r)).map V.str ++ ((prog.map Row.vs).map rowT).map V.str = LL
      have s12 : Same G11 (upd G11 l3 (.lst LL)) := Same.new (Same.refl _) nl3
      have hl3 : upd G11 l3 (.lst LL) l3 = some (.lst LL) := upd_same
      have lLL : LL.length ≤ 47 := by
        rw [← hLL, List.length_append, List.length_append, List.length_map, List.length_map, List.length_map, List.length_map, List.length_map, List.length_map]
        show 1 + ks.length + prog.length ≤ 47
        omega
      generalize upd G11 l3 (.lst LL) = G12 at s12 hl3
      have s812 := (s810.trans s11).trans s12
      have A12 := A8.keep s812
      refine lines_lcL (K := K) (i := 15) (a := al) (ps := qs) (rows := as.map av) (f := fun r => rowT (.str "at" :: r)) (σ := [some (.ref a), some (.ref d), some (.int (0 + (i0 : Nat))), some (.ref pa), some (.ref ml), some (.ref wl), some (.ref al), some (.ref l2), v8, v9, v10, v11, v12, v13, v14, v15]) (by show 15 < 16; decide) (fun R h => ⟨_, rfl, al, rfl, ⟨_, SqL.of A12.lst⟩, h⟩) (SqL.of A12.lst) A12.rws (by rw [List.length_map]; exact Nat.le_trans aok.len (by decide)) (fun σ2 H3 p r Q' hr ht h1 kk => line_te (fa r hr).1 (fa r hr).2.1 (fa r hr).2.2 ht h1 kk) (fun G13 R3 hR3 s13 => ?_)
      refine ⟨l3, R3, _, _, rfl, rfl, s13 _ _ hl3, hR3, ?_, fun l4 nl4 => ?_⟩
      · rw [List.length_map, List.length_map, List.length_map]
        exact Nat.le_trans (show LL.length + as.length ≤ 55 by have := aok.len; omega) (by decide)
      have eL : LL ++ ((as.map av).map fun r => rowT (.str "at" :: r)).map V.str = ((rowsV prog ks ws as).map rowT).map V.str := by
        rw [← hLL]
        unfold rowsV
        simp only [List.map_append, List.map_map, List.map_cons, List.map_nil]
        rfl
      rw [eL]
      have s14 : Same G13 (upd G13 l4 (.lst (((rowsV prog ks ws as).map rowT).map V.str))) := Same.new (Same.refl _) nl4
      have hl4 : upd G13 l4 (.lst (((rowsV prog ks ws as).map rowT).map V.str)) l4 = some (.lst (((rowsV prog ks ws as).map rowT).map V.str)) := upd_same
      dsimp only [gName, List.set]
      show tSeq (tAsg _ _) _ _ [some (.ref a), some (.ref d), some (.int (0 + (i0 : Nat))), some (.ref pa), some (.ref ml), some (.ref wl), some (.ref al), some (.ref l4), v8, v9, v10, v11, v12, v13, v14, v15] (upd G13 l4 (.lst (((rowsV prog ks ws as).map rowT).map V.str)))
      generalize upd G13 l4 (.lst (((rowsV prog ks ws as).map rowT).map V.str)) = G14 at s14 hl4
      have s414 := (s48.trans s812).trans (s13.trans s14)
      have W14 := W4.keep s414
      have A14 := A4.keep s414
      have m14 := s414 _ _ hml4
      have Pr14 := Pr4.same s414
      refine ⟨_, rfl, wl, _, rfl, .inl (SqL.of W14.lst), fun hw nhw => ?_⟩
      have s15 : Same G14 (upd G14 hw (.lst (ts.map V.ref))) := Same.new (Same.refl _) nhw
      have h15 : upd G14 hw (.lst (ts.map V.ref)) hw = some (.lst (ts.map V.ref)) := upd_same
      generalize upd G14 hw (.lst (ts.map V.ref)) = G15 at s15 h15
      refine ⟨_, rfl, ml, _, rfl, .inl (SqL.of (s15 _ _ m14)), fun hm nhm => ?_⟩
      have s16 : Same G15 (upd G15 hm (.lst (ws.map V.int))) := Same.new (Same.refl _) nhm
      have h16 : upd G15 hm (.lst (ws.map V.int)) hm = some (.lst (ws.map V.int)) := upd_same
      generalize upd G15 hm (.lst (ws.map V.int)) = G16 at s16 h16
      refine ⟨_, rfl, al, _, rfl, .inl (SqL.of (s16 _ _ (s15 _ _ A14.lst))), fun ha nha => ?_⟩
      have s17 : Same G16 (upd G16 ha (.lst (qs.map V.ref))) := Same.new (Same.refl _) nha
      have h17 : upd G16 ha (.lst (qs.map V.ref)) ha = some (.lst (qs.map V.ref)) := upd_same
      generalize upd G16 ha (.lst (qs.map V.ref)) = G17 at s17 h17
      refine ⟨(show 3 ≤ sizeLine by decide), fun ht nht => ?_⟩
      have s18 : Same G17 (upd G17 ht (.tup [.ref hw, .ref hm, .ref ha])) := Same.new (Same.refl _) nht
      have h18 : SqT K (upd G17 ht (.tup [.ref hw, .ref hm, .ref ha])) ht [.ref hw, .ref hm, .ref ha] := SqT.of upd_same
      dsimp only [gName, List.set]
      show tSeq (tAsg _ _) _ _ [some (.ref a), some (.ref d), some (.int (0 + (i0 : Nat))), some (.ref pa), some (.ref ml), some (.ref wl), some (.ref al), some (.ref l4), some (.ref ht), v9, v10, v11, v12, v13, v14, v15] (upd G17 ht (.tup [.ref hw, .ref hm, .ref ha]))
      generalize upd G17 ht (.tup [.ref hw, .ref hm, .ref ha]) = G18 at s18 h18
      have s1418 := ((s15.trans s16).trans s17).trans s18
      have Ww : WorksAt K G18 hw ts ks := ⟨SqL.of (s18 _ _ (s17 _ _ (s16 _ _ h15))), by have := W14.len; rw [List.length_map] at this; exact this, fun j t k e1 e2 => SqT.of ((W14.keep s1418).at_ j t _ e1 (by rw [List.getElem?_map, e2]; rfl))⟩
      have Aa : AsksAt K G18 ha qs as := ⟨SqL.of (s18 _ _ h17), by have := A14.len; rw [List.length_map] at this; exact this, fun j t k e1 e2 => SqT.of ((A14.keep s1418).at_ j t _ e1 (by rw [List.getElem?_map, e2]; rfl))⟩
      have Gd : Good28 K G18 pa hw hm ha rs ts qs prog ks ws as := ⟨Pr14.same s1418, pr0, pr40, prok, Ww, ks6, kok, SqL.of (s18 _ _ (s17 _ _ h16)), w4, w32, wok, Aa, aok⟩
      refine ⟨_, rfl, _, rfl, ht, _, 0, .ref hw, rfl, rfl, h18, rfl, _, rfl, ht, _, 1, .ref hm, rfl, rfl, h18, rfl, _, rfl, ht, _, 2, .ref ha, rfl, rfl, h18, rfl, pa, hw, hm, ha, rs, ts, qs, prog, ks, ws, as, rfl, Gd, fun G19 s19 => ?_⟩
      have s1419 := s1418.trans s19
      have hto := text_ok hls hrn
      dsimp only [gName, List.set]
      show tSeq (tIfS _ _ _) _ _ [some (.ref a), some (.ref d), some (.int (0 + (i0 : Nat))), some (.ref pa), some (.ref ml), some (.ref wl), some (.ref al), some (.ref l4), some (.ref ht), some (.str (textV (rowsV prog ks ws as))), v10, v11, v12, v13, v14, v15] G19
      have l19 := s1419 _ _ hl4
      refine ⟨_, rfl, ⟨_, rfl⟩, _, rfl, "\n", l4, (rowsV prog ks ws as).map rowT, rfl, rfl, .inl (SqL.of l19), hto.1, _, _, .str (textV (rowsV prog ks ws as)), rfl, .str _, .str _, .str _, Nat.zero_le _, fun G20 s20 => ?_⟩
      refine ⟨_, rfl, iteF ?_⟩
      have s1420 := s1419.trans s20
      have s1820 := s19.trans s20
      have hgr : ∀ k ∈ ks, k.greed = "all" ∨ k.greed = "turn" ∨ k.greed = "idle" := fun k hk => (kok k hk).gr
      refine ⟨_, rfl, _, rfl, _, rfl, _, rfl, (show 3 ≤ sizeLine by decide), fun t2 nt2 => ?_⟩
      have s21 : Same G20 (upd G20 t2 (.tup [.ref wl, .ref ml, .ref al])) := Same.new (Same.refl _) nt2
      have h21 : SqT K (upd G20 t2 (.tup [.ref wl, .ref ml, .ref al])) t2 [.ref wl, .ref ml, .ref al] := SqT.of upd_same
      generalize upd G20 t2 (.tup [.ref wl, .ref ml, .ref al]) = G21 at s21 h21
      have W21 := (W14.keep s1420).keep s21
      have A21 := (A14.keep s1420).keep s21
      have x18 := s1820.trans s21
      refine ⟨dHd ks ws as, dHd ks ws as, .tup (Same.tup x18 h18) (.cons (W21.dpW (x18 _ _ (s18 _ _ (s17 _ _ (s16 _ _ h15))))) (.cons (.lst (SqL.of (x18 _ _ (s18 _ _ (s17 _ _ h16)))) (dp_ints ws)) (.cons (A21.dpA (x18 _ _ (s18 _ _ h17))) .nil))), .tup h21 (.cons (W21.dpW W21.lst) (.cons (.lst (SqL.of (s21 _ _ (s1420 _ _ m14))) (dp_ints ws)) (.cons (A21.dpA A21.lst) .nil))), dHd_shaped ws as hgr, dHd_shaped ws as hgr, _, rfl, ?_⟩
      rw [eqv_self (dHd_shaped ws as hgr)]
      refine iteF ?_
      have Gp : Good28p prog ks ws as := ⟨pr0, pr40, prok, ks6, kok, w4, w32, wok, aok⟩
      have s421 := (s414.trans s1420).trans s21
      refine ⟨2, rfl, by decide, by decide, ?_⟩
      refine for_it walk_range (fun i σ H5 => ∃ v10 v11 v12, σ = [some (.ref a), some (.ref d), some (.int (0 + (i0 : Nat))), some (.ref pa), some (.ref ml), some (.ref wl), some (.ref al), some (.ref l4), some (.ref ht), some (.str (textV (rowsV prog ks ws as))), v10, v11, v12, v13, v14, v15] ∧ Same G21 H5)
        ⟨_, _, _, rfl, Same.refl _⟩ (fun _ _ _ _ _ => trivial) ?_ ?_
      · rintro i1 x σ G22 G22' hi1 ⟨v10, v11, v12, rfl, s22⟩ ⟨rfl, rfl⟩
        have s422 := s421.trans s22
        refine ⟨_, rfl, prog, ks, ws, as, rfl, Gp, fun G23 t pa2 wl2 ml2 al2 rs2 ts2 qs2 ht2 Pr2 W2 hm2 A2 n1 n2 n3 z1 z2 z3 s23 => ?_⟩
        have Pr23 := Pr14.same (((s1420.trans s21).trans s22).trans s23)
        have W23 := ((W21.keep s22).keep s23)
        have A23 := ((A21.keep s22).keep s23)
        have m23 := s23 _ _ (s22 _ _ (s21 _ _ (s1420 _ _ m14)))
        have lks : ts2.length ≤ 6 := by have := W2.len; rw [List.length_map] at this; omega
        have las : qs2.length ≤ 8 := by have := A2.len; rw [List.length_map] at this; have := aok.len; omega
        dsimp only [gName, List.set]
        show tSeq (tIfS _ _ _) _ _ [some (.ref a), some (.ref d), some (.int (0 + (i0 : Nat))), some (.ref pa), some (.ref ml), some (.ref wl), some (.ref al), some (.ref l4), some (.ref ht), some (.str (textV (rowsV prog ks ws as))), _, some (.ref t), v12, v13, v14, v15] G23
        refine ⟨_, rfl, _, rfl, _, rfl, _, rfl, _, rfl, (show 4 ≤ sizeLine by decide), fun u nu => ?_⟩
        have s24 : Same G23 (upd G23 u (.tup [.ref pa, .ref wl, .ref ml, .ref al])) := Same.new (Same.refl _) nu
        have h24 : SqT K (upd G23 u (.tup [.ref pa, .ref wl, .ref ml, .ref al])) u [.ref pa, .ref wl, .ref ml, .ref al] := SqT.of upd_same
        generalize upd G23 u (.tup [.ref pa, .ref wl, .ref ml, .ref al]) = G24 at s24 h24
        refine ⟨.ref t, .ref u, dAll28 prog ks ws as, rfl, dp_all28 (SqT.of (s24 _ _ ht2)) (Pr2.same s24) (W2.keep s24) (s24 _ _ hm2) (A2.keep s24), dp_all28 h24 (Pr23.same s24) (W23.keep s24) (s24 _ _ m23) (A23.keep s24), sm_all28 (by omega) (by omega) (by omega) (by have := aok.len; omega), all_deep28 _ _ _ _, fun G25 s25 => ⟨_, rfl, iteF ?_⟩⟩
        have s2325 := s24.trans s25
        refine ⟨_, rfl, _, rfl, ?_⟩
        unfold tNoPart
        refine slice1 (SqT.of (s2325 _ _ ht2)) fun t4 nt4 => ?_
        have s26 : Same G25 (upd G25 t4 (.tup [.ref wl2, .ref ml2, .ref al2])) := Same.new (Same.refl _) nt4
        have h26 : upd G25 t4 (.tup [.ref wl2, .ref ml2, .ref al2]) t4 = some (.tup [.ref wl2, .ref ml2, .ref al2]) := upd_same
        generalize upd G25 t4 (.tup [.ref wl2, .ref ml2, .ref al2]) = G26 at s26 h26
        have s2326 := s2325.trans s26
        have ew := s2325 _ _ W2.lst
        have em := s2325 _ _ hm2
        have ea := s2325 _ _ A2.lst
        refine ⟨t4, rfl, ⟨_, SqT.of h26⟩, ?_⟩
        refine for_it (walk_tup (xs := [.ref wl2, .ref ml2, .ref al2])) (fun j σ H10 => ∃ v12, σ = [some (.ref a), some (.ref d), some (.int (0 + (i0 : Nat))), some (.ref pa), some (.ref ml), some (.ref wl), some (.ref al), some (.ref l4), some (.ref ht), some (.str (textV (rowsV prog ks ws as))), some (.int (0 + (i1 : Nat))), some (.ref t), v12, v13, v14, v15] ∧ Kept [wl2, ml2, al2] G26 H10 ∧ ∀ b ∈ [wl2, ml2, al2], ∃ l, H10 b = some (.lst l) ∧ l.length ≤ 40 + j)
          ⟨_, rfl, Kept.refl _ _, fun b hb => ?_⟩ (fun j σ H10 _ e => ?_) ?_ ?_
        · simp only [List.mem_cons, List.not_mem_nil, or_false] at hb
          rcases hb with rfl | rfl | rfl
          · exact ⟨_, s26 _ _ ew, by rw [List.length_map]; omega⟩
          · exact ⟨_, s26 _ _ em, by rw [List.length_map]; omega⟩
          · exact ⟨_, s26 _ _ ea, by rw [List.length_map]; omega⟩
        · obtain ⟨_, _, kk, _⟩ := e
          refine SqT.of (kk _ _ h26 (fun zz => ?_))
          have : ∃ u, G25 t4 = some u := by
            simp only [List.mem_cons, List.not_mem_nil, or_false] at zz
            rcases zz with zz | zz | zz <;> rw [zz]
            · exact ⟨_, ew⟩
            · exact ⟨_, em⟩
            · exact ⟨_, ea⟩
          obtain ⟨u, hu⟩ := this
          rw [nt4] at hu
          cases hu
        · rintro j x σ H10 H10' hj ⟨v12, rfl, kk, ls⟩ ⟨rfl, hx⟩
          have hj3 : j < 3 := hj
          have hx4 := List.mem_of_getElem? hx
          obtain ⟨b, hb, e⟩ : ∃ b, b ∈ [wl2, ml2, al2] ∧ x = .ref b := by
            simp only [List.mem_cons, List.not_mem_nil, or_false] at hx4
            rcases hx4 with e | e | e
            · exact ⟨wl2, by simp, e⟩
            · exact ⟨ml2, by simp, e⟩
            · exact ⟨al2, by simp, e⟩
          subst e
          obtain ⟨l, hl, ll⟩ := ls b hb
          refine ⟨_, rfl, .inl ⟨rfl, _, SqL.of hl⟩, _, _, _, rfl, rfl, hl, Nat.lt_of_le_of_lt (show l.length ≤ 100 by omega) (by decide), ?_⟩
          refine ⟨_, rfl, kk.put hb, fun c hc => ?_⟩
          by_cases h : c = b
          · rw [h]
            exact ⟨_, upd_same, by rw [List.length_append]; show l.length + 1 ≤ _; omega⟩
          · obtain ⟨l2, hl2, ll2⟩ := ls c hc
            exact ⟨l2, by rw [upd_ne h]; exact hl2, by omega⟩
        · rintro σ H10 ⟨v12, rfl, kk, _⟩
          refine ⟨_, _, _, rfl, fun b o e => ?_⟩
          have e22 := s22 _ _ e
          refine kk _ _ (s2326 _ _ (s23 _ _ e22)) (fun zz => ?_)
          simp only [List.mem_cons, List.not_mem_nil, or_false] at zz
          rcases zz with zz | zz | zz <;> rw [zz] at e22
          · rw [z1] at e22; cases e22
          · rw [z2] at e22; cases e22
          · rw [z3] at e22; cases e22
      · rintro σ G22 ⟨v10, v11, v12, rfl, s22⟩
        exact ⟨f4, p4, cs4, _, _, _, _, _, _, _, _, _, _, _, _, _, _, rfl, D4.same (s421.trans s22), by omega⟩
    · rintro σ H5 ⟨f0, p0, cs0, v2, v3, v4, v5, v6, v7, v8, v9, v10, v11, v12, v13, v14, v15, rfl, D0, c0⟩
      have hh := @eqv_self (dAll28 [.fin] [] [0, 1, 2, 3] []) (by kernel_rfl)
      refine ⟨[.fin], [], [0, 1, 2, 3], [], by rw [known_text], known_good, fun H6 t pa wl ml al rs ts qs ht Pr W hm A _ _ _ _ _ _ s6 => ?_⟩
      have D1 := dp_all28 (SqT.of ht) Pr W hm A
      refine (ev_tup (K := K) (ds := [.tuple [.tuple [.str "end"]], .list [], .list [.int 0, .int 1, .int 2, .int 3], .list []]) (eva_cons (ev_tup (eva_cons (ev_tup (eva_cons (ev_str _) eva_nil) (by decide)) eva_nil) (by decide)) (eva_cons (ev_lst eva_nil (by decide)).ev (eva_cons (ev_lst (eva_cons (ev_int 0) (eva_cons (ev_int 1) (eva_cons (ev_int 2) (eva_cons (ev_int 3) eva_nil)))) (by decide)).ev (eva_cons (ev_lst eva_nil (by decide)).ev eva_nil)))) (by decide)) H6 _ (Same.refl H6) fun v H7 D2 s7 => ?_
      refine ⟨_, _, dp_same s7 D1, D2, by kernel_rfl, by kernel_rfl, ?_⟩
      show Q (.bl _) _
      have e : PyData.eqv (dAll28 [.fin] [] [0, 1, 2, 3] []) (.tuple [.tuple [.tuple [.str "end"]], .list [], .list [.int 0, .int 1, .int 2, .int 3], .list []]) = true := hh
      rw [e]
      exact q _
end
end SB

set_option Elab.async false
set_option linter.all false
set_option maxRecDepth 100000
set_option maxHeartbeats 0
open PySem PySem.W PySem.Calls PyProof.Rows
theorem PySem.Challenge.cw_stealbeats_k28_written_and_read_holds : PySem.Challenge.rw_stealbeats_k28_written_and_read.Holds := by
  w_on; o_law
  refine HandSHeadRun.head_any (r := OpenLaw.row PySem.Challenge.rw_stealbeats_k28_written_and_read) (q := view (OpenLaw.row PySem.Challenge.rw_stealbeats_k28_written_and_read).prog [55]) (H := SB.hk) (ob := SB.ob) (M := 6000) (loose := SB.loose) (d := HandSHeadRun.topDef (OpenLaw.row PySem.Challenge.rw_stealbeats_k28_written_and_read).prog 55) (kwd := []) SB.ob_eq
    (by kernel_rfl) (fun s => by kernel_rfl) SB.run (by kernel_rfl) (by kernel_rfl) (by kernel_rfl) (by rfl) (by first | assumption | decide +kernel) (by decide +kernel) ⟨rfl, rfl, rfl, rfl, rfl, by decide +kernel⟩ ?hw ?hc
  case hw => w_witness2
  case hc =>
    refine L2.walk_ofE (l := PySem.Challenge.rw_stealbeats_k28_written_and_read) (n := 63) (k := 7) (x := "_law_script") (CX := L2.CX0) rfl (by decide) (by kernel_rfl) ⟨rfl, by decide, by decide⟩ ?F (fun _ _ _ _ z => z)
    intro w mg fa h Y G hmg0
    obtain ⟨K, KX, c⟩ := Y
    have hmg : mg ("law" : PySem.Str) = some (.ref fa) := by
      have e : (HandSHeadRun.topDef (OpenLaw.row PySem.Challenge.rw_stealbeats_k28_written_and_read).prog 55).name = ("law" : PySem.Str) := by kernel_rfl
      rw [← e]
      exact hmg0
    have T := SB.mkT KX G c
    have e := hmg.symm.trans T.g_law
    cases e
    obtain ⟨fd, F⟩ := T.f_law
    have b := L2.FunD.bindsA (ps := ["_law_script"]) F fun _ _ _ _ _ _ us hl => match us, hl with | [_], _ => rfl
    exact ⟨K, fd, SB.spLaw28 K, KX, fun s v => b s [v] rfl, fun H a ns hl _ hS => ⟨a, ns, rfl, hS, hl, fun _ => rfl⟩, fun base _ _ => SB.ok_law T F⟩

