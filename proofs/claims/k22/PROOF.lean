import PyProof.Rows.All
import Wide.All
import OpenK.AllK
import Wide.FinOn
import HandS.Base
import HandS.Call
import HandS.List
import HandS.Words
import KE.GoesEnum
import HandS.Iter
import HandS.ForMost
import HandS.More
import HandS.Star
import HandS.Defaults
import HandS.IsInst
import KE.KStateDown
import HandS.Zip
import HandS.TupMul
import HandS.Walk
import HandS.HeadHook4
import HandS.Head0
import HandS.Head1
import HandS.Head2
import HandS.HeadEnd
import PySem.Challenge.RW_stealbeats_k22_whole_rests_are_enough
import HandS.TupAny
import HandS.Small
import HandS.Deep
import KE.KDictPairs
import KE.KDictLaws
import HandS.Dict
import KE.KLam
import KE.SortKeyHeap
import HandS.Lambda
import HandS.SortKw
import HandS.EndTab
import PyProof.EqAt
import PyProof.EqKinds
import PyProof.NeKinds
import HandS.Flow
import HandS.Comp
import HandS.Style
import HandS.TryOnly
set_option Elab.async false
set_option linter.all false
set_option maxRecDepth 100000
namespace L2
open PySem PySem.Spec PyProof.Rows
section
variable {X : Cx}
abbrev Bd := Option (List (Nat × V))
def RelB (X : Cx) : Bd → Option (List (Str × Value)) → Prop
  | none, none => True
  | some bs, some us => Paired (fun (p : Nat × V) (q : Str × Value) => X.N[p.1]? = some q.1 ∧ Loc X.env.scope q.1 ∧ (X.fn q.1 = true ∨ X.env.scope.names.lookup q.1 = some .local) ∧ RelV p.2 q.2) bs us
  | _, _ => False
abbrev TPat := V → St → Hp → (Bd → Hp → Prop) → Prop
abbrev TPats := List V → St → Hp → (Bd → Hp → Prop) → Prop
structure PPat (X : Cx) (p : Pattern) (t : TPat) : Prop where
  run : ∀ (pins : List (Addr × Obj)) (s : Shared) (σ : St) (H : Hp) (v : V) (u : Value) (Q : Bd → Hp → Prop), Inv X pins σ H s → RelV v u → t v σ H Q →
    wpAny (model X.prog X.w) X.A (matchPattern p X.env u) (fun r s' => ∃ r' H', Inv X pins σ H' s' ∧ RelB X r' r ∧ Q r' H') X.xe s
structure PFst (X : Cx) (ps : List Pattern) (t : TPat) : Prop where
  run : ∀ (pins : List (Addr × Obj)) (s : Shared) (σ : St) (H : Hp) (v : V) (u : Value) (Q : Bd → Hp → Prop), Inv X pins σ H s → RelV v u → t v σ H Q →
    wpAny (model X.prog X.w) X.A (matchFirst ps X.env u) (fun r s' => ∃ r' H', Inv X pins σ H' s' ∧ RelB X r' r ∧ Q r' H') X.xe s
structure PEach (X : Cx) (ps : List Pattern) (t : TPats) : Prop where
  run : ∀ (pins : List (Addr × Obj)) (s : Shared) (σ : St) (H : Hp) (vs : List V) (us : List Value) (Q : Bd → Hp → Prop), Inv X pins σ H s → Vals vs us → t vs σ H Q →
    wpAny (model X.prog X.w) X.A (matchEach ps X.env us) (fun r s' => ∃ r' H', Inv X pins σ H' s' ∧ RelB X r' r ∧ Q r' H') X.xe s

def tpStr (x : Str) : TPat := fun v _ H Q => scal v (.str x) = true ∧ Q (if v = .str x then some [] else none) H
theorem pp_str {x : Str} {j pos pos'} : PPat X (.MatchValue (.Constant (.str x) j pos) pos') (tpStr x) := by
  refine ⟨fun pins s σ H v u Q I r h => ?_⟩
  obtain ⟨h1, h2⟩ := h
  refine wpAny_matchPattern_Value (Calls.Constant_str ?_)
  refine thn (op_eq pins _ σ H v (.str x) u _ (fun c H' => c = .bl (decide (v = .str x)) ∧ H' = H) (I.tok _) r ⟨_, rfl⟩ ⟨h1, rfl, rfl⟩) fun c s2 ⟨y, H1, I1, r1, q1, q2⟩ => ?_
  subst q1 q2
  cases r1
  refine wpAny_truthy_bool ?_
  by_cases e : v = .str x
  · rw [if_pos e] at h2
    rw [if_pos (decide_eq_true e)]
    exact ⟨some [], _, I1, .nil, h2⟩
  · rw [if_neg e] at h2
    rw [if_neg (by simp [e])]
    exact ⟨none, _, I1, trivial, h2⟩
def tpName (i : Nat) : TPat := fun v _ H Q => Q (some [(i, v)]) H
theorem pp_name {i : Nat} {x : Str} {pos} (hi : X.N[i]? = some x) (hx : Loc X.env.scope x) (hf : X.fn x = true ∨ X.env.scope.names.lookup x = some .local := by first | exact .inl rfl | exact .inr rfl | assumption) :
    PPat X (.MatchAs none (some x) pos) (tpName i) := by
  refine ⟨fun pins s σ H v u Q I r h => ?_⟩
  exact wpAny_matchPattern_Capture ⟨some [(i, v)], H, I, (show RelB X (some [(i, v)]) (some [(x, u)]) from Paired.cons ⟨hi, hx, hf, r⟩ Paired.nil), h⟩
def tpNo : TPat := fun _ _ H Q => Q none H
def tpElse (t u : TPat) : TPat := fun v σ H Q => t v σ H fun r H1 => match r with
  | some bs => Q (some bs) H1
  | none => u v σ H1 Q
theorem pf_nil : PFst X [] tpNo := ⟨fun pins s σ H v u Q I r h => wpAny_matchFirst_nil ⟨none, H, I, trivial, h⟩⟩
theorem pf_cons {p : Pattern} {ps : List Pattern} {t u : TPat} (h1 : PPat X p t) (h2 : PFst X ps u) : PFst X (p :: ps) (tpElse t u) := by
  refine ⟨fun pins s σ H v u Q I r h => ?_⟩
  refine wpAny_matchFirst_cons (thn (h1.run pins s σ H v u _ I r h) fun b s1 ⟨b', H1, I1, rb, q⟩ => ?_)
  cases b with
  | none =>
    cases b' with
    | none => exact h2.run pins s1 σ H1 v u Q I1 r q
    | some _ => exact rb.elim
  | some us =>
    cases b' with
    | none => exact rb.elim
    | some bs => exact ⟨some bs, H1, I1, rb, q⟩
def tpOr (t : TPat) : TPat := fun v σ H Q => t v σ H fun r H1 => match r with
  | some _ => Q (some []) H1
  | none => Q none H1
theorem pp_or {ps : List Pattern} {t : TPat} {pos} (h : PFst X ps t) (hn : namesOfAll (ps.take 1) = [] := by rfl) : PPat X (.MatchOr ps pos) (tpOr t) := by
  refine ⟨fun pins s σ H v u Q I r hw => ?_⟩
  refine wpAny_matchPattern_Or (thn (h.run pins s σ H v u _ I r hw) fun b s1 ⟨b', H1, I1, rb, q⟩ => ?_)
  cases b with
  | none =>
    cases b' with
    | none => exact ⟨none, H1, I1, trivial, q⟩
    | some _ => exact rb.elim
  | some us =>
    cases b' with
    | none => exact rb.elim
    | some bs =>
      rw [hn]
      exact ⟨some [], H1, I1, .nil, q⟩
def tqNil : TPats := fun _ _ H Q => Q (some []) H
def tqCons (t : TPat) (u : TPats) : TPats := fun vs σ H Q => ∃ v rest, vs = v :: rest ∧ t v σ H fun r H1 => match r with
  | none => Q none H1
  | some bs => u rest σ H1 fun r' H2 => match r' with
    | none => Q none H2
    | some more => Q (some (bs ++ more)) H2
theorem pq_nil : PEach X [] tqNil := ⟨fun pins s σ H vs us Q I r h => wpAny_matchEach_nil ⟨some [], H, I, .nil, h⟩⟩
theorem Paired.append' {α β : Type} {R : α → β → Prop} : ∀ {a b : List α} {c d : List β}, Paired R a c → Paired R b d → Paired R (a ++ b) (c ++ d)
  | _, _, _, _, .nil, h => h
  | _, _, _, _, .cons r t, h => .cons r (Paired.append' t h)
theorem pq_cons {p : Pattern} {ps : List Pattern} {t : TPat} {u : TPats} (h1 : PPat X p t) (h2 : PEach X ps u) (hp : p.isStar = false := by rfl) : PEach X (p :: ps) (tqCons t u) := by
  refine ⟨fun pins s σ H vs us Q I r h => ?_⟩
  obtain ⟨v, rest, e, h⟩ := h
  subst e
  cases r with
  | cons r rr =>
    refine wpAny_matchEach_cons (thn (h1.run pins s σ H v _ _ I r h) fun b s1 ⟨b', H1, I1, rb, q⟩ => ?_) hp
    cases b with
    | none =>
      cases b' with
      | none => exact ⟨none, H1, I1, trivial, q⟩
      | some _ => exact rb.elim
    | some us =>
      cases b' with
      | none => exact rb.elim
      | some bs =>
        refine thn (h2.run pins s1 σ H1 rest _ _ I1 rr q) fun b2 s2 ⟨b2', H2, I2, rb2, q2⟩ => ?_
        cases b2 with
        | none =>
          cases b2' with
          | none => exact ⟨none, H2, I2, trivial, q2⟩
          | some _ => exact rb2.elim
        | some us2 =>
          cases b2' with
          | none => exact rb2.elim
          | some bs2 => exact ⟨some (bs ++ bs2), H2, I2, Paired.append' rb rb2, q2⟩
def tpSeq (K : PySem.W.Frag) (n : Nat) (t : TPats) : TPat := fun v σ H Q => ∃ a xs, v = .ref a ∧ SqT K H a xs ∧ if xs.length = n then t xs σ H Q else Q none H
theorem pp_seq {ps : List Pattern} {t : TPats} {pos} {n : Nat} (hc : X.calm = true) (h : PEach X ps t) (hn : ps.length = n := by rfl) (hstar : ps.findIdx? (·.isStar) = none := by rfl)
    (hwild : (ps.all fun p => p.isWildcard || (p.isStar && p.names.isEmpty)) = false := by rfl) : PPat X (.MatchSequence ps pos) (tpSeq X.K n t) := by
  refine ⟨fun pins s σ H v u Q I r hw => ?_⟩
  obtain ⟨a, xs, e, hq, hw⟩ := hw
  subst e hn
  cases r
  obtain ⟨its, rv, ht, hz⟩ := I.tuple hq
  have hl := rv.length
  have hfit : (its.toArray.size : Int) < 2 ^ 63 := by
    have : (sizeLine : Int) < 2 ^ 63 := by decide
    simp
    omega
  by_cases en : xs.length = ps.length
  · rw [if_pos en] at hw
    refine matchSeq_tuple_hit ht hfit (by simp; omega) ?_ hstar hwild
    have e2 : ps.length = its.toArray.size := by simp; omega
    rw [e2]
    refine unpackItems_tuple (s := { s with toks := s.toks + 1 + 1 }) (I.ok.hd hc) ht fun h' hx => ?_
    have I1 : Inv X pins σ H { s with toks := s.toks + 1 + 1, heap := h' } := (I.tok (s.toks + 1 + 1)).kept (t' := s.toks + 1 + 1) fun b o e => hx b o (Nat.ne_of_lt (Heap.lt_size e)) e
    exact h.run pins _ σ H xs _ Q I1 (by simpa using rv) hw
  · rw [if_neg en] at hw
    exact matchSeq_tuple_miss ht hfit (by simp; omega) ⟨none, H, I.tok _, trivial, hw⟩ hstar hwild
def bindAll : List (Nat × V) → St → St
  | [], σ => σ
  | (i, v) :: r, σ => bindAll r (σ.set i (some v))
theorem bind_ok {M : Model} {A : Around} {E : Value → Shared → Prop} {pins : List (Addr × Obj)} {H : Hp} (hN : X.N.Nodup) {bs : List (Nat × V)} {us : List (Str × Value)} {σ : St} {s : Shared} {Q : Unit → Shared → Prop}
    (rb : RelB X (some bs) (some us)) (I : Inv X pins σ H s) (h : ∀ s', Inv X pins (bindAll bs σ) H s' → Q () s') : wpAny M A (assignInOrder (us.map fun (n, _) => bindName X.env n) (us.map (·.2))) Q E s := by
  have rb' : Paired (fun (p : Nat × V) (q : Str × Value) => X.N[p.1]? = some q.1 ∧ Loc X.env.scope q.1 ∧ (X.fn q.1 = true ∨ X.env.scope.names.lookup q.1 = some .local) ∧ RelV p.2 q.2) bs us := rb
  clear rb
  induction rb' generalizing σ s with
  | nil => exact wpAny_assignInOrder_none (h s I)
  | cons r _ ih =>
    obtain ⟨h1, h2, h3, h4⟩ := r
    exact wpAny_assignInOrder_more (wpAny_bindName (store_ok I hN h1 h2 h4 (fun s' I' => ih I' h) h3))
abbrev TMc := V → TS
structure PMc (X : Cx) (cs : List MatchCase) (t : TMc) : Prop where
  run : ∀ (first : Bool) (pins : List (Addr × Obj)) (s : Shared) (σ : St) (H : Hp) (v : V) (u : Value) (D : Ends), Inv X pins σ H s → RelV v u → t v D σ H → wpAny (model X.prog X.w) X.A (matchCases cs X.env u first) (SP X pins D) X.xe s
def tmNil : TMc := fun _ D σ H => D.nx σ H
def tmCons (p : TPat) (b : TS) (u : TMc) : TMc := fun v D σ H => p v σ H fun r H1 => match r with
  | none => u v D σ H1
  | some bs => b D (bindAll bs σ) H1
theorem pm_nil : PMc X [] tmNil := ⟨fun _ pins s σ H v u D I r h => wpAny_matchCases_nil ⟨σ, H, I, h⟩⟩
theorem pm_cons {p : Pattern} {body : List Stmt} {cs : List MatchCase} {tp : TPat} {tb : TS} {u : TMc} (hN : X.N.Nodup) (h1 : PPat X p tp) (h2 : PSs X body tb) (h3 : PMc X cs u) : PMc X (⟨p, none, body⟩ :: cs) (tmCons tp tb u) := by
  refine ⟨fun first pins s σ H v uu D I r h => ?_⟩
  refine wpAny_matchCases_cons (thn (h1.run pins s σ H v uu _ I r h) fun b s1 ⟨b', H1, I1, rb, q⟩ => ?_)
  cases b with
  | none =>
    cases b' with
    | none => exact h3.run false pins s1 σ H1 v uu D I1 r q
    | some _ => exact rb.elim
  | some us =>
    cases b' with
    | none => exact rb.elim
    | some bs => exact bind_ok hN rb I1 fun s2 I2 => h2.run pins s2 _ H1 D I2 q
def tMatch (te : TE) (tm : TMc) : TS := fun D σ H => te σ H fun v H1 => tm v D σ H1
theorem ps_match {e : Expr} {cs : List MatchCase} {te : TE} {tm : TMc} {pos} (he : PE X e te) (hm : PMc X cs tm) : PS X (.Match e cs pos) (tMatch te tm) := by
  refine ⟨fun pins s σ H D I h => ?_⟩
  exact wpAny_Match (thn (he.run pins s σ H _ I h) fun v s1 ⟨x, H1, I1, r1, q1⟩ => hm.run true pins s1 σ H1 x v D I1 r1 q1)
end
end L2

set_option Elab.async false
set_option linter.all false
set_option maxRecDepth 100000
namespace PySem
open Sem (wp)
open AutoSeq1 (wpAny_loadPart')
set_option maxHeartbeats 1000000 in
theorem meets_enumerate_new1 {v : Value} {o : Obj} {H : Heap → Prop} (B : Begins v o H) :
    Meets (Builtin.«enumerate.__new__» ⟨[.type "enumerate", v], []⟩) (fun _ R s => H s.heap ∧
      R (.ok (.ret (.ref (s.heap.push o).objs.size))) { s with heap := (s.heap.push o).push { cls := .type "enumerate", data := .fields #[.none, .bool false, .ref s.heap.objs.size, rawInt 0, .none, .none] } }) :=
  .of_wp fun prog w A R s h => by
    obtain ⟨hp, g, d, tk, os⟩ := s; obtain ⟨h1, h⟩ := h
    have hsub := sub_enumerate
    have q1 : ∀ {A' : Around} {E : Value → Shared → Prop} {Q : Value → Shared → Prop}, Q (.ref hp.objs.size) ⟨hp.push o, g, d, tk, os⟩ → wpAny (model prog w) A' (pyIter v) Q E ⟨hp, g, d, tk, os⟩ :=
      fun q => B.iter prog w _ _ ⟨hp, g, d, tk, os⟩ _ h1 q
    wp_walk using q1
    refine wpAny_stack_any fun st => wpAny_pure ?_
    split
    · rename_i c _ _ _ _ _
      cases (c == Value.type "enumerate")
      · wp_walk using q1
        exact ⟨_, rfl, h⟩
      · wp_walk using q1
        exact ⟨_, rfl, h⟩
    · wp_walk using q1
      exact ⟨_, rfl, h⟩
theorem enum_begins1 {prog : Program} {w : World} {A : Around} {E : Value → Shared → Prop} {s : Shared} {v : Value} {o : Obj} {H : Heap → Prop} {Q : Value → Shared → Prop} (B : Begins v o H) (h1 : H s.heap)
    (h : ∀ h', IsEnum h' (s.heap.objs.size + 1) s.heap.objs.size 0 .none → h'.get? s.heap.objs.size = some o → h'.objs.size = s.heap.objs.size + 2 →
      (∀ b o, s.heap.get? b = some o → h'.get? b = some o) → Q (.ref (s.heap.objs.size + 1)) { s with heap := h' }) :
    wpAny (model prog w) A (call (.type "enumerate") [v]) Q E s := by
  refine callType_new F.called_enumerate (by decide) (F.typeCall_enumerate_1 _) (F.newCall_enumerate_1 _) (fun obj => F.args_object_init_2 obj _) F.entry_enumerate_new
    (meets_enumerate_new1 B) ⟨h1, ?_⟩
  have hz : (s.heap.push o).objs.size = s.heap.objs.size + 1 := Heap.size_push ..
  show _ ∧ _
  rw [hz]
  have he : IsEnum ((s.heap.push o).push { cls := .type "enumerate", data := .fields #[.none, .bool false, .ref s.heap.objs.size, rawInt 0, .none, .none] }) (s.heap.objs.size + 1) s.heap.objs.size 0 .none := by
    have := Heap.get?_push_size (s.heap.push o) (o := { cls := .type "enumerate", data := .fields #[.none, .bool false, .ref s.heap.objs.size, rawInt 0, .none, .none] }) rfl
    rw [hz] at this; exact this
  refine ⟨⟨_, he, rfl⟩, h _ he (Heap.get?_push_of_some _ (Heap.get?_push_size _ B.free)) (by rw [Heap.size_push, hz]) fun b o x => Heap.get?_push_of_some _ (Heap.get?_push_of_some _ x)⟩
end PySem
namespace L2
open PySem PySem.Spec PyProof.Rows
def IteT (K : PySem.W.Frag) (a : Addr) : It :=
  ⟨fun i H => ∃ (xs : List V) (x : V), SqT K H a xs ∧ xs[i]? = some x, fun i H v H' => ∃ T x, v = .ref T ∧ H T = none ∧ H' = upd H T (.tup [.int (i : Nat), x]) ∧ ∀ xs, SqT K H a xs → xs[i]? = some x, fun i H => ∃ xs : List V, SqT K H a xs ∧ xs.length ≤ i⟩
theorem pyNext_enumT_end {prog : Program} {w : World} {A : Around} {E : Value → Shared → Prop} {s : Shared} {e it l : Addr} {i : Nat} {items : Array Value} {old : Value} {Q : Option Value → Shared → Prop} (hh : A.handled = none)
    (he : IsEnum s.heap e it i old) (hit : s.heap.IsTupleIter it l i) (hl : s.heap.IsTuple l items) (hx : items[i]? = none)
    (hQ : ∀ h', Heap.ExtBut it s.heap h' → Q none { s with heap := h' }) : wpAny (model prog w) A (pyNext (.ref e)) Q E s := by
  have hT : s.TypeIs (.ref e) "enumerate" := ⟨_, he, rfl⟩
  unfold pyNext
  refine wpAny_bind (wpAny_attempt (wpAny_callSpecial?_slot (name := Str.ofString "__next__") hT F.slot_enumerate_next
    (wpAny_call_entry F.slot_enumerate_next hT F.entry_enumerate_next ?_ (F.args_enumerate_next_1 _))))
  show wpAny _ _ (field (.ref e) 2 >>= _) _ _ _
  refine wpAny_bind (wpAny_field he rfl (x := .ref it) rfl ?_)
  refine wpAny_bind (wpAny_nextOf_tuple_end hh hit hl hx fun h' x he' hx' => ?_)
  obtain ⟨o, ho, hc⟩ := hx'
  refine wpAny_bind (wpAny_isInstance (T := "StopIteration") (b := true) ⟨o, ho, hc⟩ isSubtype_stop ?_)
  exact wpAny_pure (hQ _ he')
theorem turn_enumT {P : Program} {w : World} {K : PySem.W.Frag} {elts : List Expr} {kk : Nat} {tpos : Pos} (a e it : Addr) :
    Turn P w K (.Tuple elts kk tpos) (IteT K a) [e, it] e (fun i h => (∃ old, IsEnum h e it ((i : Nat) : Int) old) ∧ h.IsTupleIter it a i ∧ e ≠ it) where
  mem := by simp
  obj := fun i h st b hb => by
    obtain ⟨⟨old, he⟩, ⟨o, ho, hc, hd⟩, _⟩ := st
    have e' : b = e ∨ b = it := by simpa using hb
    rcases e' with z | z
    · rw [z]; exact ⟨_, he, fun v q => nomatch q⟩
    · rw [z]; exact ⟨o, ho, fun v q => by rw [hd] at q; cases q⟩
  keep := fun i h h' st k => let ⟨⟨old, he⟩, hi, hne⟩ := st; ⟨⟨old, k e (by simp) _ he⟩, hi.at fun o q => k it (by simp) o q, hne⟩
  item := by
    intro X hP hw hK hc i pins s σ H E I hf st hg
    subst hP hw hK
    obtain ⟨⟨old, he⟩, hit, hne⟩ := st
    obtain ⟨xs, x, hq, hx⟩ := hg
    obtain ⟨its, rv, p, hz⟩ := I.tuple hq
    obtain ⟨u, hu, ru⟩ := rv.get hx
    have hel : e < s.heap.objs.size := Heap.lt_size he
    have hil : it < s.heap.objs.size := by obtain ⟨_, q, _⟩ := hit; exact Heap.lt_size q
    have p' : s.heap.IsTuple a its.toArray := p
    have ea : e ≠ a := by
      rintro rfl
      obtain ⟨o, ho, hc', _⟩ := p'
      rw [he] at ho
      cases ho
      exact absurd (show Value.type "enumerate" = Value.type "tuple" from hc') (by decide)
    have ia : it ≠ a := by
      rintro rfl
      obtain ⟨o, ho, hc', _⟩ := p'
      obtain ⟨o2, ho2, hc2, _⟩ := hit
      rw [ho2] at ho
      cases ho
      rw [hc2] at hc'
      exact absurd hc' (by decide)
    have hlt : i < its.toArray.size := by
      have := (List.getElem?_eq_some_iff.mp hu).1
      simpa using this
    refine wpAny_pyNext_enum_itemD (Draws.tuple (show X.A.in1.handled = none from I.ok.hd hc) it a (Ne.symm ia) its.toArray) he ⟨hit, p'⟩ hlt hne (by simp [hne, ea]) fun x' h' tk hPx ho hst' hT hsz hk => ?_
    have hxu : x' = u := by
      have e1 : its.toArray[i]? = some x' := hPx
      have e2 : its.toArray[i]? = some u := by simpa using hu
      rw [e1] at e2
      exact Option.some.inj e2
    subst hxu
    refine ⟨_, rfl, wpAny_letOwnedTupleGo_enum (s := { s with heap := h', toks := tk + 1 }) ho fun h'' he' sb => ?_⟩
    have hT2 : h''.get? s.heap.objs.size = some { cls := .type "tuple", data := .seq #[.int i tk, x'] } := (sb.2 _ (Nat.ne_of_gt hel)).trans hT
    have new : ObjOk X.prog X.w (upd H s.heap.objs.size (.tup [.int (i : Nat), x])) h'' s.heap.objs.size (.tup [.int (i : Nat), x]) :=
      ⟨by show 2 ≤ sizeLine; decide, [.int i tk, x'], .cons ⟨_, rfl⟩ (.cons ru .nil), ⟨_, hT2, rfl, _, rfl⟩⟩
    have I1 : Inv X pins σ (upd H s.heap.objs.size (.tup [.int (i : Nat), x])) { s with heap := h'', toks := tk + 1 } :=
      I.turnedNew (ch := [e, it]) (fun b ob hb q => (sb.2 b (fun z => hb (by simp [z]))).trans (hk b ob (fun z => hb (by simp [z])) (fun z => hb (by simp [z])) q)) hf (Nat.le_refl _) new
    refine ⟨.ref s.heap.objs.size, _, I1, rfl, ⟨_, x, rfl, I.hok.fresh (Nat.le_refl _), rfl, fun ys hy => by rw [I.tuple_inj hy hq]; exact hx⟩, ⟨⟨x', ?_⟩, hst'.1.at fun o q => (sb.2 it (Ne.symm hne)).trans q, hne⟩, fun b hb => ?_⟩
    · have e1 : ((i + 1 : Nat) : Int) = (i : Int) + 1 := by omega
      rw [e1]; exact he'
    · have hb' : b < s.heap.objs.size := by
        have e' : b = e ∨ b = it := by simpa using hb
        rcases e' with z | z
        · rw [z]; exact hel
        · rw [z]; exact hil
      rw [upd_ne (Nat.ne_of_lt hb')]
      exact (hf b hb).1
  done := by
    intro X hP hw hK hc i pins s σ H E I hf st hg
    subst hP hw hK
    obtain ⟨⟨old, he⟩, hit, hne⟩ := st
    obtain ⟨xs, hq, hx⟩ := hg
    obtain ⟨its, rv, p, hz⟩ := I.tuple hq
    obtain ⟨f0, f1, f2, f3, f4, f5⟩ := hf it (by simp)
    have hl := rv.length
    exact pyNext_enumT_end (I.ok.hd hc) he hit p (by simp; omega) fun h' eb => ⟨rfl, I.turned (t' := s.toks) (fun b o hb q => eb b o hb q) f0 f1 f3 f4 f5⟩
  self := fun A i s Q E st h => let ⟨⟨_, he⟩, _⟩ := st; wpAny_pyIter_enum he h
def iEnumT (K : PySem.W.Frag) (ta : TA) : TI := fun σ H R => ta σ H fun vs H1 => ∃ a xs, vs = [.ref a] ∧ SqT K H1 a xs ∧ R (IteT K a) H1
theorem pi_enumT {X : Cx} {e : Expr} {ta : TA} {p pos tpos : Pos} {elts : List Expr} {kk : Nat} (hg : Gl X "enumerate") (hm : X.mg "enumerate" = none) (ha : PA X [e] ta) (hs : starEach [e] X.env = [(false, eval e X.env)] := by rfl) :
    PI X (.Tuple elts kk tpos) (.Call (.Name "enumerate" p) [e] [] pos) (iEnumT X.K ta) := by
  refine ⟨fun pins s σ H R I h => ?_⟩
  refine Call_ (ld_blt I hg hm boot_enumerate (PyProof.Rows.callWith_type1 (thn (ha.run pos pins s σ H _ I h) fun us s1 ⟨vs, H1, I1, r1, q1⟩ => ?_) hs rfl))
  obtain ⟨a, xs, ex, hq, q⟩ := q1
  subst ex
  cases r1 with
  | cons r rr =>
    cases rr
    cases r
    obtain ⟨its, rv, p', hz⟩ := I1.tuple hq
    refine enum_begins1 (begins_tuple a its.toArray) p' fun h' he hit hsz hk => wpAny_pyIter_enum he ?_
    have I2 : Inv X pins σ H1 { s1 with heap := h' } := I1.kept (t' := s1.toks) hk
    refine ⟨s1.heap.objs.size + 1, [s1.heap.objs.size + 1, s1.heap.objs.size], _, _, H1, rfl, I2, turn_enumT a (s1.heap.objs.size + 1) s1.heap.objs.size, ⟨⟨.none, he⟩, ⟨_, hit, rfl, rfl⟩, Nat.succ_ne_self _⟩, fun b hb => ?_, q⟩
    have e' : b = s1.heap.objs.size + 1 ∨ b = s1.heap.objs.size := by simpa using hb
    have hle : s1.heap.objs.size ≤ b := by
      rcases e' with z | z
      · rw [z]; exact Nat.le_add_right _ _
      · rw [z]; exact Nat.le_refl _
    exact I1.fpOk hle (I1.hok.fresh hle)
end L2

set_option Elab.async false
set_option linter.all false
set_option maxRecDepth 100000
namespace L2
open PySem PySem.Spec PyProof.Rows StX
def tCallR (sp : Sp) (t : TA) : TE := fun σ H Q => t σ H fun vs H1 => sp vs H1 Q E0
section
variable {X : Cx} {k : Nat} {f C : Addr} {sp : Sp} {x m : Str} {e o : Expr} {es : List Expr} {te ta : TE} {t : TA} {p sp_ pos apos : Pos}
theorem pe_callR (F : FnR X.prog X.w X.K X.mg X.base CX0 k f sp) (hr : Room k X.A) (hg : Gl X x) (hm : X.mg x = some (.ref f)) (hk : PySem.W.keepIn X.K (.ref f) = true)
    (ha : PA X (e :: es) t) (hdb : (x == ("__debug__" : Str)) = false := by decide) (he : starEach (e :: es) X.env = (false, eval e X.env) :: starEach es X.env := by rfl) (hpl : (backTo pos (starEach es X.env)).any (·.1) = false := by rfl) :
    PE X (.Call (.Name x p) (e :: es) [] pos) (tCallR sp t) := by
  refine ⟨fun pins s σ H Q I h => ?_⟩
  refine wpAny_Call_Name_kw (ld_glob I hg hm ?_ hdb)
  refine PySem.W.callWith_K (h₀ := X.base) I.ok.mod.kin hk (thn (ha.run pos pins s σ H _ I h) fun us s1 ⟨vs, H1, I1, r, q⟩ => ⟨I1.kIn, ?_⟩) he hpl
  exact wpAny_call (run_fnR F hr pass0 I1 r q)
theorem pe_mthR {pl : Sem Bool} (he : PE X o ta) (c : Cls X.K C) (hm : Meth X.K C m f)
    (F : FnR X.prog X.w X.K X.mg X.base CX0 k f sp) (hr : Room k X.A) (ha : PA X (e :: es) t)
    (hst : starEach (e :: es) X.env = (false, eval e X.env) :: starEach es X.env := by rfl) (hpl : (backTo pos (starEach es X.env)).any (·.1) = false := by rfl)
    (ht : eval (.Call (.Attribute o m apos) (e :: es) [] pos) X.env = (do
      let ov ← eval o X.env
      standAt apos.atName
      let (f, first) ← holding [ov] (getMethod ov m pl)
      callWith pos f first (backTo pos (starEach (e :: es) X.env)) (backToKw pos (keywordEach [] X.env))) := by rfl) :
    PE X (.Call (.Attribute o m apos) (e :: es) [] pos) (tMethR C m sp E0 ta t) := pe_methR he c hm F hr pass0 ha hst hpl ht
theorem pe_mth0R {pl : Sem Bool} (he : PE X o ta) (c : Cls X.K C) (hm : Meth X.K C m f) (F : FnR X.prog X.w X.K X.mg X.base CX0 k f sp) (hr : Room k X.A)
    (ht : eval (.Call (.Attribute o m apos) [] [] pos) X.env = (do
      let ov ← eval o X.env
      standAt apos.atName
      let (f, first) ← holding [ov] (getMethod ov m pl)
      callWith pos f first (backTo pos (starEach [] X.env)) (backToKw pos (keywordEach [] X.env))) := by rfl) :
    PE X (.Call (.Attribute o m apos) [] [] pos) (tMethR C m sp E0 ta tNil) := by
  refine ⟨fun pins s σ H Q I h => ?_⟩
  refine PySem.W.methodCall_KW (pl := pl) (thn (he.run pins s σ H _ I h) fun u s1 ⟨x, H1, I1, rx, a, dx, fs, ex, ea, l, q⟩ => ?_) ht
  subst ex
  obtain rfl : u = Value.ref a := rx
  refine getmeth_ok I1 ea c hm l ?_
  exact PySem.W.callWith_K0 (first := [.ref a]) I1.kIn hm.kp (wpAny_call (run_fnR (us := [.ref a]) (vs := [.ref a]) F hr pass0 I1 (.cons rfl .nil) q))
theorem pe_mkR (M : Mk X.K C f) (F : FnR X.prog X.w X.K X.mg X.base CX0 k f sp) (hr : Room (k + 1) X.A) (hg : Gl X x) (hm : X.mg x = some (.ref C)) (ha : PA X (e :: es) t) (hdb : (x == ("__debug__" : Str)) = false := by decide)
    (he : starEach (e :: es) X.env = (false, eval e X.env) :: starEach es X.env := by rfl) (hpl : (backTo pos (starEach es X.env)).any (·.1) = false := by rfl) : PE X (.Call (.Name x p) (e :: es) [] pos) (tMakeR C sp E0 t) :=
  pe_makeR M F hr hg hm pass0 ha hdb he hpl
def tMakeS (K : PySem.W.Frag) (C : Addr) (sp : Sp) (te : TE) : TE := fun σ H Q => te σ H fun y H1 => ∃ a xs, y = V.ref a ∧ SqT K H1 a xs ∧ ∀ x dx, H1 x = Option.none → H1 dx = Option.none → dx ≠ x →
  sp (V.ref x :: xs) (upd (upd H1 dx (.own x)) x (.ins C dx [])) (fun v H2 => v = .non ∧ Q (.ref x) H2) E0
theorem pe_mkS (M : Mk X.K C f) (F : FnR X.prog X.w X.K X.mg X.base CX0 k f sp) (hr : Room (k + 1) X.A) (hg : Gl X x) (hm : X.mg x = some (.ref C)) (he : PE X e te) (hd : (x == ("__debug__" : Str)) = false := by decide)
    (hst : starEach [.Starred e sp_] X.env = [(true, eval e X.env)] := by rfl) : PE X (.Call (.Name x p) [.Starred e sp_] [] pos) (tMakeS X.K C sp te) := by
  refine ⟨fun pins s σ H Q I h => ?_⟩
  refine wpAny_Call_Name_kw (ld_glob I hg hm ?_ hd)
  refine PySem.W.callWith_S (h₀ := X.base) I.ok.mod.kin M.kp (thn (he.run pins s σ H _ I h) fun v s1 ⟨y, H1, I1, ry, a, xs, ey, hxs, q⟩ => ?_) hst
  subst ey
  obtain rfl : v = Value.ref a := ry
  exact star_any I1 (.inl hxs) fun us s2 I2 rv => ⟨I2.kIn, run_makeR M F hr pass0 I2 rv q⟩
end
section
variable {P : Program} {w : World} {K : PySem.W.Frag} {mg : Str → Option Value} {base : Heap} {x qual : Str} {params : Arguments} {body : List Stmt} {scope : Scope} {f : Addr} {fd : FuncData}
theorem FunD.r {N ps : List Str} {k : Nat} {sp : Sp} (F : FunD K x qual params body scope [] [] f fd) (S : FnScope N ps scope)
    (hb : ∀ (kV doc pm : Value) (an : Option Addr) (cdv ct : Value) (us : List Value), us.length = ps.length → bindArgs (PySem.W.fnOf x qual params body scope .none kV doc pm an cdv ct) ⟨us, []⟩ = pure (ps.zip us))
    (len : ∀ vs H Q E, sp vs H Q E → vs.length = ps.length)
    (hbody : ∀ (cdv : Value) (A : Around) (outer : List Env) (s : Shared) (H : Hp) (vs : List V) (Q : VK) (E : XK), Room k (A.deeper (envOfC qual scope s.heap.objs.size f cdv)) → sp vs H Q E →
      ∃ t, PSs (cxOf CX0 P w K mg base N qual scope f cdv A outer s H E).nox body t ∧ t { nx := fun _ H' => Q .non H', rt := Q } (start N vs) H) : FnR P w K mg base CX0 (k + 1) f sp := by
  refine ((F.ok (CX := CX0) S len (fun cdv A outer s H vs Q E hr hs => ?_)).raw (F.bindsN hb) .nil).imp (fun vs H Q E h => by rw [List.append_nil]; exact h)
  obtain ⟨t, h1, h2⟩ := hbody cdv A outer s H vs Q E hr hs
  exact ⟨t, h1.nox, h2⟩
end
end L2

set_option Elab.async false
set_option linter.all false
set_option maxRecDepth 100000
namespace L2
open PySem PySem.Spec PyProof.Rows
theorem PE.imp {X : Cx} {e : Expr} {t t' : TE} (h : PE X e t) (i : ∀ σ H Q, t' σ H Q → t σ H Q) : PE X e t' := ⟨fun pins s σ H Q I hw => h.run pins s σ H Q I (i σ H Q hw)⟩
inductive TyN (K : PySem.W.Frag) (H : Hp) : V → String → Prop where
  | int (i : Int) : TyN K H (.int i) "int"
  | str (x : Str) : TyN K H (.str x) "str"
  | bl (b : Bool) : TyN K H (.bl b) "bool"
  | non : TyN K H .non "NoneType"
  | tup {a : Addr} {xs : List V} (h : SqT K H a xs) : TyN K H (.ref a) "tuple"
  | lst {a : Addr} {xs : List V} (h : SqL K H a xs) : TyN K H (.ref a) "list"
def subTy (n T : String) : Bool := n == T || (n == "bool" && T == "int")
theorem TyN.mem {K : PySem.W.Frag} {H : Hp} {x : V} {n : String} (t : TyN K H x n) : n ∈ ["int", "str", "bool", "NoneType", "tuple", "list"] := by cases t <;> decide
theorem TyN.tyX {K : PySem.W.Frag} {H : Hp} {x : V} {n : String} (t : TyN K H x n) : TyX K H x (.type n) := by
  cases t with
  | int i => exact .base (.int i)
  | str i => exact .base (.str i)
  | bl i => exact .base (.bl i)
  | non => exact .base .non
  | tup h =>
    rcases h with (h | ⟨o, h⟩) | ⟨o, its, n, hk, hc, _⟩
    · exact .base (.tup h)
    · exact .fTuple h
    · exact .kTuple hk hc
  | lst h =>
    rcases h with (h | ⟨o, h⟩) | ⟨o, its, n, hk, hc, _⟩
    · exact .base (.lst h)
    · exact .base (.frz h)
    · exact .kList hk hc
def tIsi (K : PySem.W.Frag) (T : String) (te : TE) : TE := fun σ H Q => te σ H fun x H1 => V.ty T = V.ty T ∧ ∃ n, TyN K H1 x n ∧ Q (.bl (subTy n T)) H1
theorem pe_isi {X : Cx} {T : Str} {n : String} {e : Expr} {te : TE} {p p2 pos : Pos} (hg : Gl X "isinstance") (hm : X.mg "isinstance" = none) (hg2 : Gl X T) (hm2 : X.mg T = none) (he : PE X e te)
    (hv : bootBuiltins T = some (.type n) := by decide +kernel) (hk : ∀ m ∈ ["int", "str", "bool", "NoneType", "tuple", "list"], kitB m n = some (subTy m n) := by decide +kernel) (hn : T ≠ "__name__" := by decide) (hd : (T == ("__debug__" : Str)) = false := by decide)
    (hs : starEach [e, .Name T p2] X.env = (false, eval e X.env) :: starEach [.Name T p2] X.env := by rfl)
    (hs2 : starEach [.Name T p2] X.env = (false, eval (.Name T p2) X.env) :: starEach [] X.env := by rfl) (hpl : (backTo pos (starEach [.Name T p2] X.env)).any (·.1) = false := by rfl) :
    PE X (.Call (.Name "isinstance" p) [e, .Name T p2] [] pos) (tIsi X.K n te) := by
  refine ⟨fun pins s σ H Q I h => ?_⟩
  have ha := pa_cons he (pa_cons (pe_bltn (v := .ty n) (pos := p2) hg2 hm2 hv rfl hn hd) pa_nil hs2) hs
  refine wpAny_Call_Name_kw (ld_blt (u := .builtin "isinstance") I hg hm (by decide +kernel) ?_)
  refine PyProof.Rows.callWith_builtin1 (thn (ha.run pos pins s σ H (fun vs H1 => match vs with
    | [x, c] => c = .ty n ∧ ∃ m, TyN X.K H1 x m ∧ Q (.bl (subTy m n)) H1
    | _ => False) I ?_) fun us s1 ⟨vs, H1, I1, r1, q1⟩ => ?_) hs hpl
  · exact h
  · match vs, r1, q1 with
    | [x, c], r1, q1 =>
      obtain ⟨rfl, m, ty, q⟩ := q1
      exact call_isi pins s1 σ H1 _ us Q I1 r1 ⟨x, .ty n, .type m, .type n, subTy m n, rfl, .ty n, ty.tyX, kit_ty (hk m ty.mem), q⟩
end L2

set_option Elab.async false
set_option linter.all false
set_option maxRecDepth 100000
set_option maxHeartbeats 2000000
namespace SB
open PySem PySem.Spec PyProof.Rows L2
def top (i : Nat) : Stmt := PySem.Challenge.pw_stealbeats_k22_whole_rests_are_enough.main.body.getD i (.Pass ⟨0, 0, 0, 0⟩)
abbrev s_is_number : Stmt := top 19
abbrev s_is_part : Stmt := top 20
abbrev s_is_one_of : Stmt := top 21
abbrev s_is_row : Stmt := top 22
abbrev s_is_work : Stmt := top 23
abbrev s_is_window : Stmt := top 24
abbrev s_is_pair : Stmt := top 25
abbrev s_is_claim : Stmt := top 26
abbrev s_check_program : Stmt := top 27
abbrev s_check_works : Stmt := top 28
abbrev s_check_memory : Stmt := top 29
abbrev s_check_window : Stmt := top 30
abbrev s_check_windowed : Stmt := top 31
abbrev s_check_claim : Stmt := top 32
abbrev s_check_pair : Stmt := top 33
abbrev s_check_straight : Stmt := top 34
abbrev s_Going_init : Stmt := inClass (top 36) 0
abbrev s_Work_init : Stmt := inClass (top 37) 0
abbrev s_Work_held_off : Stmt := inClass (top 37) 1
abbrev s_Work_may_take : Stmt := inClass (top 37) 2
abbrev s_Work_move : Stmt := inClass (top 37) 3
abbrev s_Work_fetch : Stmt := inClass (top 37) 4
abbrev s_Work_lay : Stmt := inClass (top 37) 5
abbrev s_Device_init : Stmt := inClass (top 38) 0
abbrev s_Device_is_on : Stmt := inClass (top 38) 1
abbrev s_Device_wake : Stmt := inClass (top 38) 2
abbrev s_Device_start : Stmt := inClass (top 38) 3
abbrev s_Device_move : Stmt := inClass (top 38) 4
abbrev s_Device_taker : Stmt := inClass (top 38) 5
abbrev s_Device_numbers_on : Stmt := inClass (top 38) 6
abbrev s_Device_shown_on : Stmt := inClass (top 38) 7
abbrev s_beats_of : Stmt := top 43
abbrev s_word_of : Stmt := top 44
abbrev s_Machine_init : Stmt := inClass (top 45) 0
abbrev s_Machine_ended : Stmt := inClass (top 45) 1
abbrev s_Machine_wanted : Stmt := inClass (top 45) 2
abbrev s_Machine_step : Stmt := inClass (top 45) 3
abbrev s_Machine_use_word : Stmt := inClass (top 45) 4
abbrev s_Machine_finish : Stmt := inClass (top 45) 5
abbrev s_Machine_reckoned : Stmt := inClass (top 45) 6
abbrev s_Floor_init : Stmt := inClass (top 47) 0
abbrev s_Floor_pass_beat : Stmt := inClass (top 47) 1
abbrev s_Floor_seen : Stmt := inClass (top 47) 2
abbrev s_Watch_init : Stmt := inClass (top 49) 0
abbrev s_Watch_run : Stmt := inClass (top 49) 1
abbrev s_Watch_run_till : Stmt := inClass (top 49) 2
abbrev s_Watch_step : Stmt := inClass (top 49) 3
abbrev s_Watch_note_get : Stmt := inClass (top 49) 4
abbrev s_lays_at : Stmt := top 51
abbrev s_laid_ahead : Stmt := top 52
abbrev s_is_torn : Stmt := top 53
abbrev s_tears : Stmt := top 54
abbrev s_is_whole : Stmt := top 55
abbrev s_tears_within : Stmt := top 56
abbrev s_first_torn : Stmt := top 57
abbrev s_is_always_whole : Stmt := top 60
abbrev s_fewest : Stmt := top 61
abbrev s_rests : Stmt := top 62
abbrev s_is_over : Stmt := top 64
abbrev s_is_kept : Stmt := top 65
abbrev s_holds : Stmt := top 66
abbrev s_leans : Stmt := top 67
abbrev s_l_dice : Stmt := top 69
abbrev s_l_off : Stmt := top 70
abbrev s_l_words : Stmt := top 71
abbrev s_l_work : Stmt := top 72
abbrev s_l_row : Stmt := top 73
abbrev s_l_near : Stmt := top 74
abbrev s_l_rest_rows : Stmt := top 75
abbrev s_law : Stmt := top 76
theorem sc_is_number : FnScope ["value", "low", "high"] ["value", "low", "high"] (defScope s_is_number) := ⟨rfl, rfl, rfl, by decide +kernel, rfl, by decide +kernel, by decide +kernel⟩
theorem sc_is_part : FnScope ["value", "kind", "low", "high"] ["value", "kind"] (defScope s_is_part) := ⟨rfl, rfl, rfl, by decide +kernel, rfl, by decide +kernel, by decide +kernel⟩
theorem sc_is_one_of : FnScope ["value", "many"] ["value", "many"] (defScope s_is_one_of) := ⟨rfl, rfl, rfl, by decide +kernel, rfl, by decide +kernel, by decide +kernel⟩
theorem sc_is_row : FnScope ["row", "row_count", "form", "value", "kind", "fits"] ["row", "row_count"] (defScope s_is_row) := ⟨rfl, rfl, rfl, by decide +kernel, rfl, by decide +kernel, by decide +kernel⟩
theorem sc_is_work : FnScope ["work", "work_count", "begin", "goal", "many", "block", "greed", "mark", "follow", "moves", "held"] ["work", "work_count"] (defScope s_is_work) := ⟨rfl, rfl, rfl, by decide +kernel, rfl, by decide +kernel, by decide +kernel⟩
theorem sc_is_window : FnScope ["work", "low", "high", "works"] ["work", "low", "high", "works"] (defScope s_is_window) := ⟨rfl, rfl, rfl, by decide +kernel, rfl, by decide +kernel, by decide +kernel⟩
theorem sc_is_pair : FnScope ["row", "program"] ["row", "program"] (defScope s_is_pair) := ⟨rfl, rfl, rfl, by decide +kernel, rfl, by decide +kernel, by decide +kernel⟩
theorem sc_is_claim : FnScope ["claim", "program", "works", "work", "row", "low", "high", "one", "other", "stretch"] ["claim", "program", "works"] (defScope s_is_claim) := ⟨rfl, rfl, rfl, by decide +kernel, rfl, by decide +kernel, by decide +kernel⟩
theorem sc_check_program : FnScope ["program", "at", "row"] ["program"] (defScope s_check_program) := ⟨rfl, rfl, rfl, by decide +kernel, rfl, by decide +kernel, by decide +kernel⟩
theorem sc_check_works : FnScope ["works", "at", "work"] ["works"] (defScope s_check_works) := ⟨rfl, rfl, rfl, by decide +kernel, rfl, by decide +kernel, by decide +kernel⟩
theorem sc_check_memory : FnScope ["memory", "word"] ["memory"] (defScope s_check_memory) := ⟨rfl, rfl, rfl, by decide +kernel, rfl, by decide +kernel, by decide +kernel⟩
theorem sc_check_window : FnScope ["work", "low", "high", "works"] ["work", "low", "high", "works"] (defScope s_check_window) := ⟨rfl, rfl, rfl, by decide +kernel, rfl, by decide +kernel, by decide +kernel⟩
theorem sc_check_windowed : FnScope ["program", "works", "memory", "work", "low", "high"] ["program", "works", "memory", "work", "low", "high"] (defScope s_check_windowed) := ⟨rfl, rfl, rfl, by decide +kernel, rfl, by decide +kernel, by decide +kernel⟩
theorem sc_check_claim : FnScope ["claim", "program", "works"] ["claim", "program", "works"] (defScope s_check_claim) := ⟨rfl, rfl, rfl, by decide +kernel, rfl, by decide +kernel, by decide +kernel⟩
theorem sc_check_pair : FnScope ["row", "program"] ["row", "program"] (defScope s_check_pair) := ⟨rfl, rfl, rfl, by decide +kernel, rfl, by decide +kernel, by decide +kernel⟩
theorem sc_check_straight : FnScope ["program", "row"] ["program"] (defScope s_check_straight) := ⟨rfl, rfl, rfl, by decide +kernel, rfl, by decide +kernel, by decide +kernel⟩
theorem sc_Going_init : FnScope ["self", "number"] ["self", "number"] (defScope s_Going_init) := ⟨rfl, rfl, rfl, by decide +kernel, rfl, by decide +kernel, by decide +kernel⟩
theorem sc_Work_init : FnScope ["self", "begin", "goal", "many", "block", "greed", "mark", "follow"] ["self", "begin", "goal", "many", "block", "greed", "mark", "follow"] (defScope s_Work_init) := ⟨rfl, rfl, rfl, by decide +kernel, rfl, by decide +kernel, by decide +kernel⟩
theorem sc_Work_held_off : FnScope ["self", "marks"] ["self", "marks"] (defScope s_Work_held_off) := ⟨rfl, rfl, rfl, by decide +kernel, rfl, by decide +kernel, by decide +kernel⟩
theorem sc_Work_may_take : FnScope ["self", "wanted", "took"] ["self", "wanted", "took"] (defScope s_Work_may_take) := ⟨rfl, rfl, rfl, by decide +kernel, rfl, by decide +kernel, by decide +kernel⟩
theorem sc_Work_move : FnScope ["self", "when", "words"] ["self", "when", "words"] (defScope s_Work_move) := ⟨rfl, rfl, rfl, by decide +kernel, rfl, by decide +kernel, by decide +kernel⟩
theorem sc_Work_fetch : FnScope ["self", "words", "going", "address"] ["self", "words"] (defScope s_Work_fetch) := ⟨rfl, rfl, rfl, by decide +kernel, rfl, by decide +kernel, by decide +kernel⟩
theorem sc_Work_lay : FnScope ["self", "when", "words", "going", "address", "word"] ["self", "when", "words"] (defScope s_Work_lay) := ⟨rfl, rfl, rfl, by decide +kernel, rfl, by decide +kernel, by decide +kernel⟩
theorem sc_Device_init : FnScope ["self", "works", "work"] ["self", "works"] (defScope s_Device_init) := ⟨rfl, rfl, rfl, by decide +kernel, rfl, by decide +kernel, by decide +kernel⟩
theorem sc_Device_is_on : FnScope ["self", "number"] ["self", "number"] (defScope s_Device_is_on) := ⟨rfl, rfl, rfl, by decide +kernel, rfl, by decide +kernel, by decide +kernel⟩
theorem sc_Device_wake : FnScope ["self", "asked", "number"] ["self", "asked"] (defScope s_Device_wake) := ⟨rfl, rfl, rfl, by decide +kernel, rfl, by decide +kernel, by decide +kernel⟩
theorem sc_Device_start : FnScope ["self", "number", "work"] ["self", "number"] (defScope s_Device_start) := ⟨rfl, rfl, rfl, by decide +kernel, rfl, by decide +kernel, by decide +kernel⟩
theorem sc_Device_move : FnScope ["self", "when", "wanted", "marks", "words", "number", "work", "deed", "address", "word"] ["self", "when", "wanted", "marks", "words"] (defScope s_Device_move) := ⟨rfl, rfl, rfl, by decide +kernel, rfl, by decide +kernel, by decide +kernel⟩
theorem sc_Device_taker : FnScope ["self", "wanted", "marks", "number", "work"] ["self", "wanted", "marks"] (defScope s_Device_taker) := ⟨rfl, rfl, rfl, by decide +kernel, rfl, by decide +kernel, by decide +kernel⟩
theorem sc_Device_numbers_on : FnScope ["self", "number"] ["self"] (defScope s_Device_numbers_on) := ⟨rfl, rfl, rfl, by decide +kernel, rfl, by decide +kernel, by decide +kernel⟩
theorem sc_Device_shown_on : FnScope ["self", "on", "number", "going"] ["self"] (defScope s_Device_shown_on) := ⟨rfl, rfl, rfl, by decide +kernel, rfl, by decide +kernel, by decide +kernel⟩
theorem sc_beats_of : FnScope ["row"] ["row"] (defScope s_beats_of) := ⟨rfl, rfl, rfl, by decide +kernel, rfl, by decide +kernel, by decide +kernel⟩
theorem sc_word_of : FnScope ["row", "spent", "cells", "cell", "address", "holder"] ["row", "spent", "cells"] (defScope s_word_of) := ⟨rfl, rfl, rfl, by decide +kernel, rfl, by decide +kernel, by decide +kernel⟩
theorem sc_Machine_init : FnScope ["self", "program"] ["self", "program"] (defScope s_Machine_init) := ⟨rfl, rfl, rfl, by decide +kernel, rfl, by decide +kernel, by decide +kernel⟩
theorem sc_Machine_ended : FnScope ["self"] ["self"] (defScope s_Machine_ended) := ⟨rfl, rfl, rfl, by decide +kernel, rfl, by decide +kernel, by decide +kernel⟩
theorem sc_Machine_wanted : FnScope ["self"] ["self"] (defScope s_Machine_wanted) := ⟨rfl, rfl, rfl, by decide +kernel, rfl, by decide +kernel, by decide +kernel⟩
theorem sc_Machine_step : FnScope ["self", "words", "device", "wanted", "told", "row"] ["self", "words", "device"] (defScope s_Machine_step) := ⟨rfl, rfl, rfl, by decide +kernel, rfl, by decide +kernel, by decide +kernel⟩
theorem sc_Machine_use_word : FnScope ["self", "wanted", "words", "deed", "place", "cell", "address"] ["self", "wanted", "words"] (defScope s_Machine_use_word) := ⟨rfl, rfl, rfl, by decide +kernel, rfl, by decide +kernel, by decide +kernel⟩
theorem sc_Machine_finish : FnScope ["self", "row", "device", "target", "cell", "work", "mark", "other"] ["self", "row", "device"] (defScope s_Machine_finish) := ⟨rfl, rfl, rfl, by decide +kernel, rfl, by decide +kernel, by decide +kernel⟩
theorem sc_Machine_reckoned : FnScope ["self", "deed", "worth", "other", "device"] ["self", "deed", "worth", "other", "device"] (defScope s_Machine_reckoned) := ⟨rfl, rfl, rfl, by decide +kernel, rfl, by decide +kernel, by decide +kernel⟩
theorem sc_Floor_init : FnScope ["self", "program", "works", "memory", "asks"] ["self", "program", "works", "memory", "asks"] (defScope s_Floor_init) := ⟨rfl, rfl, rfl, by decide +kernel, rfl, by decide +kernel, by decide +kernel⟩
theorem sc_Floor_pass_beat : FnScope ["self", "wanted", "moved", "done", "when", "work"] ["self"] (defScope s_Floor_pass_beat) := ⟨rfl, rfl, rfl, by decide +kernel, rfl, by decide +kernel, by decide +kernel⟩
theorem sc_Floor_seen : FnScope ["self", "machine", "row"] ["self"] (defScope s_Floor_seen) := ⟨rfl, rfl, rfl, by decide +kernel, rfl, by decide +kernel, by decide +kernel⟩
theorem sc_Watch_init : FnScope ["self", "program", "works", "memory", "asks"] ["self", "program", "works", "memory", "asks"] (defScope s_Watch_init) := ⟨rfl, rfl, rfl, by decide +kernel, rfl, by decide +kernel, by decide +kernel⟩
theorem sc_Watch_run : FnScope ["self", "beats", "done"] ["self", "beats"] (defScope s_Watch_run) := ⟨rfl, rfl, rfl, by decide +kernel, rfl, by decide +kernel, by decide +kernel⟩
theorem sc_Watch_run_till : FnScope ["self", "row", "beats"] ["self", "row", "beats"] (defScope s_Watch_run_till) := ⟨rfl, rfl, rfl, by decide +kernel, rfl, by decide +kernel, by decide +kernel⟩
theorem sc_Watch_step : FnScope ["self", "floor", "when", "row", "moved", "did", "last"] ["self"] (defScope s_Watch_step) := ⟨rfl, rfl, rfl, by decide +kernel, rfl, by decide +kernel, by decide +kernel⟩
theorem sc_Watch_note_get : FnScope ["self", "row", "when", "address", "last"] ["self", "row", "when", "address", "last"] (defScope s_Watch_note_get) := ⟨rfl, rfl, rfl, by decide +kernel, rfl, by decide +kernel, by decide +kernel⟩
theorem sc_lays_at : FnScope ["work", "address", "size", "goal", "many"] ["work", "address", "size"] (defScope s_lays_at) := ⟨rfl, rfl, rfl, by decide +kernel, rfl, by decide +kernel, by decide +kernel⟩
theorem sc_laid_ahead : FnScope ["going", "got", "when", "address", "at", "place"] ["going", "got"] (defScope s_laid_ahead) := ⟨rfl, rfl, rfl, by decide +kernel, rfl, by decide +kernel, by decide +kernel⟩
theorem sc_is_torn : FnScope ["pair", "going", "work", "size", "row", "first", "second"] ["pair", "going", "work", "size"] (defScope s_is_torn) := ⟨rfl, rfl, rfl, by decide +kernel, rfl, by decide +kernel, by decide +kernel⟩
theorem sc_tears : FnScope ["watch", "pairs", "works", "size", "told", "pair", "going"] ["watch", "pairs", "works", "size"] (defScope s_tears) := ⟨rfl, rfl, rfl, by decide +kernel, rfl, by decide +kernel, by decide +kernel⟩
theorem sc_is_whole : FnScope ["watch", "works", "size", "row", "pairs", "pair"] ["watch", "works", "size", "row"] (defScope s_is_whole) := ⟨rfl, rfl, rfl, by decide +kernel, rfl, by decide +kernel, by decide +kernel⟩
theorem sc_tears_within : FnScope ["program", "works", "memory", "asks", "beats", "watch"] ["program", "works", "memory", "asks", "beats"] (defScope s_tears_within) := ⟨rfl, rfl, rfl, by decide +kernel, rfl, by decide +kernel, by decide +kernel⟩
theorem sc_first_torn : FnScope ["program", "works", "memory", "work", "low", "high", "when"] ["program", "works", "memory", "work", "low", "high"] (defScope s_first_torn) := ⟨rfl, rfl, rfl, by decide +kernel, rfl, by decide +kernel, by decide +kernel⟩
theorem sc_is_always_whole : FnScope ["program", "works", "memory", "window", "row", "work", "low", "high", "when", "watch"] ["program", "works", "memory", "window", "row"] (defScope s_is_always_whole) := ⟨rfl, rfl, rfl, by decide +kernel, rfl, by decide +kernel, by decide +kernel⟩
theorem sc_fewest : FnScope ["ahead", "behind", "works", "memory", "window", "many", "rested"] ["ahead", "behind", "works", "memory", "window"] (defScope s_fewest) := ⟨rfl, rfl, rfl, by decide +kernel, rfl, by decide +kernel, by decide +kernel⟩
theorem sc_rests : FnScope ["program", "works", "memory", "work", "low", "high", "row"] ["program", "works", "memory", "work", "low", "high", "row"] (defScope s_rests) := ⟨rfl, rfl, rfl, by decide +kernel, rfl, by decide +kernel, by decide +kernel⟩
theorem sc_is_over : FnScope ["watch", "work", "row"] ["watch", "work", "row"] (defScope s_is_over) := ⟨rfl, rfl, rfl, by decide +kernel, rfl, by decide +kernel, by decide +kernel⟩
theorem sc_is_kept : FnScope ["watch", "low", "high", "one", "other", "behind", "until", "going", "when", "address"] ["watch", "low", "high", "one", "other"] (defScope s_is_kept) := ⟨rfl, rfl, rfl, by decide +kernel, rfl, by decide +kernel, by decide +kernel⟩
theorem sc_holds : FnScope ["claim", "watch", "works", "size"] ["claim", "watch", "works", "size"] (defScope s_holds) := ⟨rfl, rfl, rfl, by decide +kernel, rfl, by decide +kernel, by decide +kernel⟩
theorem sc_leans : FnScope ["program", "works", "memory", "work", "low", "high", "claim", "when", "watch"] ["program", "works", "memory", "work", "low", "high", "claim"] (defScope s_leans) := ⟨rfl, rfl, rfl, by decide +kernel, rfl, by decide +kernel, by decide +kernel⟩
theorem sc_l_dice : FnScope ["_law_script", "_law_k", "_law_found", "_law_cell"] ["_law_script", "_law_k"] (defScope s_l_dice) := ⟨rfl, rfl, rfl, by decide +kernel, rfl, by decide +kernel, by decide +kernel⟩
theorem sc_l_off : FnScope ["_law_d", "_law_most", "_law_at", "_law_cell"] ["_law_d", "_law_most"] (defScope s_l_off) := ⟨rfl, rfl, rfl, by decide +kernel, rfl, by decide +kernel, by decide +kernel⟩
theorem sc_l_words : FnScope ["_law_d", "_law_k"] ["_law_d"] (defScope s_l_words) := ⟨rfl, rfl, rfl, by decide +kernel, rfl, by decide +kernel, by decide +kernel⟩
theorem sc_l_work : FnScope ["_law_d", "_law_many", "_law_mark", "_law_follow", "_law_has_mark", "_law_has_next", "_law_size", "_law_greed", "_law_begin", "_law_goal", "_law_k"] ["_law_d", "_law_many"] (defScope s_l_work) := ⟨rfl, rfl, rfl, by decide +kernel, rfl, by decide +kernel, by decide +kernel⟩
theorem sc_l_row : FnScope ["_law_d", "_law_many", "_law_straight", "_law_words_here", "_law_word", "_law_r", "_law_s", "_law_address", "_law_some"] ["_law_d", "_law_many", "_law_straight"] (defScope s_l_row) := ⟨rfl, rfl, rfl, by decide +kernel, rfl, by decide +kernel, by decide +kernel⟩
theorem sc_l_near : FnScope ["_law_d", "_law_many", "_law_work_here"] ["_law_d", "_law_many"] (defScope s_l_near) := ⟨rfl, rfl, rfl, by decide +kernel, rfl, by decide +kernel, by decide +kernel⟩
theorem sc_l_rest_rows : FnScope ["_law_many"] ["_law_many"] (defScope s_l_rest_rows) := ⟨rfl, rfl, rfl, by decide +kernel, rfl, by decide +kernel, by decide +kernel⟩
theorem sc_law : FnScope ["_law_script", "_law_d", "_law_memory", "_law_ahead", "_law_program", "_law_row_here", "_law_works", "_law_low", "_law_high", "_law_work_here", "_law_many", "_law_found", "_law_less", "_law_rows", "_law_some", "_law_holds", "_law_k"] ["_law_script"] (defScope s_law) := ⟨rfl, rfl, rfl, by decide +kernel, rfl, by decide +kernel, by decide +kernel⟩
def Ent (K : PySem.W.Frag) (g k : Str) (vs : List V) : Prop := ∃ p, PySem.W.nsIn K (He.ga K g) k = some (some (.ref p)) ∧ ∀ H, SqT K H p vs
def entB (K : PySem.W.Frag) (g k : Str) (vs : List V) : Bool := match PySem.W.nsIn K (He.ga K g) k with
  | some (some (.ref p)) => (match K.lookup p with
    | some ⟨.type c, _, .seq its _, _⟩ => decide (c = "tuple") && (decide (its.size ≤ sizeLine) && He.relAll vs its.toList)
    | _ => false)
  | _ => false
theorem entB_ok {K : PySem.W.Frag} {g k : Str} {vs : List V} (h : entB K g k vs = true) : Ent K g k vs := by
  unfold entB at h
  cases q : PySem.W.nsIn K (He.ga K g) k with
  | none => rw [q] at h; cases h
  | some r =>
    rw [q] at h
    cases r with
    | none => cases h
    | some u =>
      cases u with
      | ref p =>
        refine ⟨p, q, fun H => ?_⟩
        have h2 : (match K.lookup p with
          | some ⟨.type c, _, .seq its _, _⟩ => decide (c = "tuple") && (decide (its.size ≤ sizeLine) && He.relAll vs its.toList)
          | _ => false) = true := h
        cases q2 : K.lookup p with
        | none => rw [q2] at h2; cases h2
        | some o =>
          obtain ⟨oc, od, dt, osl⟩ := o
          rw [q2] at h2
          cases oc with
          | type c =>
            cases dt with
            | seq its n =>
              obtain ⟨h3, h4⟩ := He.ba h2
              obtain ⟨h5, h6⟩ := He.ba h4
              exact .inr ⟨_, its, n, q2, congrArg Value.type (of_decide_eq_true h3), rfl, of_decide_eq_true h5, He.relAll_ok h6⟩
            | _ => cases h2
          | _ => cases dt <;> cases h2
      | _ => cases h
structure T (w : World) (K : PySem.W.Frag) (mg : Str → Option Value) : Prop where
  g_is_number : mg "is_number" = some (.ref (He.ga K "is_number"))
  g_is_part : mg "is_part" = some (.ref (He.ga K "is_part"))
  g_is_one_of : mg "is_one_of" = some (.ref (He.ga K "is_one_of"))
  g_is_row : mg "is_row" = some (.ref (He.ga K "is_row"))
  g_is_work : mg "is_work" = some (.ref (He.ga K "is_work"))
  g_is_window : mg "is_window" = some (.ref (He.ga K "is_window"))
  g_is_pair : mg "is_pair" = some (.ref (He.ga K "is_pair"))
  g_is_claim : mg "is_claim" = some (.ref (He.ga K "is_claim"))
  g_check_program : mg "check_program" = some (.ref (He.ga K "check_program"))
  g_check_works : mg "check_works" = some (.ref (He.ga K "check_works"))
  g_check_memory : mg "check_memory" = some (.ref (He.ga K "check_memory"))
  g_check_window : mg "check_window" = some (.ref (He.ga K "check_window"))
  g_check_windowed : mg "check_windowed" = some (.ref (He.ga K "check_windowed"))
  g_check_claim : mg "check_claim" = some (.ref (He.ga K "check_claim"))
  g_check_pair : mg "check_pair" = some (.ref (He.ga K "check_pair"))
  g_check_straight : mg "check_straight" = some (.ref (He.ga K "check_straight"))
  g_beats_of : mg "beats_of" = some (.ref (He.ga K "beats_of"))
  g_word_of : mg "word_of" = some (.ref (He.ga K "word_of"))
  g_lays_at : mg "lays_at" = some (.ref (He.ga K "lays_at"))
  g_laid_ahead : mg "laid_ahead" = some (.ref (He.ga K "laid_ahead"))
  g_is_torn : mg "is_torn" = some (.ref (He.ga K "is_torn"))
  g_tears : mg "tears" = some (.ref (He.ga K "tears"))
  g_is_whole : mg "is_whole" = some (.ref (He.ga K "is_whole"))
  g_tears_within : mg "tears_within" = some (.ref (He.ga K "tears_within"))
  g_first_torn : mg "first_torn" = some (.ref (He.ga K "first_torn"))
  g_is_always_whole : mg "is_always_whole" = some (.ref (He.ga K "is_always_whole"))
  g_fewest : mg "fewest" = some (.ref (He.ga K "fewest"))
  g_rests : mg "rests" = some (.ref (He.ga K "rests"))
  g_is_over : mg "is_over" = some (.ref (He.ga K "is_over"))
  g_is_kept : mg "is_kept" = some (.ref (He.ga K "is_kept"))
  g_holds : mg "holds" = some (.ref (He.ga K "holds"))
  g_leans : mg "leans" = some (.ref (He.ga K "leans"))
  g_l_dice : mg "_law_dice" = some (.ref (He.ga K "_law_dice"))
  g_l_off : mg "_law_off" = some (.ref (He.ga K "_law_off"))
  g_l_words : mg "_law_words" = some (.ref (He.ga K "_law_words"))
  g_l_work : mg "_law_work" = some (.ref (He.ga K "_law_work"))
  g_l_row : mg "_law_row" = some (.ref (He.ga K "_law_row"))
  g_l_near : mg "_law_near" = some (.ref (He.ga K "_law_near"))
  g_l_rest_rows : mg "_law_rest_rows" = some (.ref (He.ga K "_law_rest_rows"))
  g_law : mg "law" = some (.ref (He.ga K "law"))
  g_Going : mg "Going" = some (.ref (He.ga K "Going"))
  cl_Going : Cls K (He.ga K "Going")
  mk_Going : Mk K (He.ga K "Going") (He.ma K (He.ga K "Going") "__init__")
  n_Going_number : NoAttr K (He.ga K "Going") "number"
  n_Going_hand : NoAttr K (He.ga K "Going") "hand"
  n_Going_puts : NoAttr K (He.ga K "Going") "puts"
  g_Work : mg "Work" = some (.ref (He.ga K "Work"))
  cl_Work : Cls K (He.ga K "Work")
  mk_Work : Mk K (He.ga K "Work") (He.ma K (He.ga K "Work") "__init__")
  n_Work_begin : NoAttr K (He.ga K "Work") "begin"
  n_Work_goal : NoAttr K (He.ga K "Work") "goal"
  n_Work_many : NoAttr K (He.ga K "Work") "many"
  n_Work_block : NoAttr K (He.ga K "Work") "block"
  n_Work_greed : NoAttr K (He.ga K "Work") "greed"
  n_Work_mark : NoAttr K (He.ga K "Work") "mark"
  n_Work_follow : NoAttr K (He.ga K "Work") "follow"
  n_Work_going : NoAttr K (He.ga K "Work") "going"
  m_Work_held_off : Meth K (He.ga K "Work") "held_off" (He.ma K (He.ga K "Work") "held_off")
  m_Work_may_take : Meth K (He.ga K "Work") "may_take" (He.ma K (He.ga K "Work") "may_take")
  m_Work_move : Meth K (He.ga K "Work") "move" (He.ma K (He.ga K "Work") "move")
  m_Work_fetch : Meth K (He.ga K "Work") "fetch" (He.ma K (He.ga K "Work") "fetch")
  m_Work_lay : Meth K (He.ga K "Work") "lay" (He.ma K (He.ga K "Work") "lay")
  g_Device : mg "Device" = some (.ref (He.ga K "Device"))
  cl_Device : Cls K (He.ga K "Device")
  mk_Device : Mk K (He.ga K "Device") (He.ma K (He.ga K "Device") "__init__")
  n_Device_works : NoAttr K (He.ga K "Device") "works"
  n_Device_took : NoAttr K (He.ga K "Device") "took"
  n_Device_begun : NoAttr K (He.ga K "Device") "begun"
  m_Device_is_on : Meth K (He.ga K "Device") "is_on" (He.ma K (He.ga K "Device") "is_on")
  m_Device_wake : Meth K (He.ga K "Device") "wake" (He.ma K (He.ga K "Device") "wake")
  m_Device_start : Meth K (He.ga K "Device") "start" (He.ma K (He.ga K "Device") "start")
  m_Device_move : Meth K (He.ga K "Device") "move" (He.ma K (He.ga K "Device") "move")
  m_Device_taker : Meth K (He.ga K "Device") "taker" (He.ma K (He.ga K "Device") "taker")
  m_Device_numbers_on : Meth K (He.ga K "Device") "numbers_on" (He.ma K (He.ga K "Device") "numbers_on")
  m_Device_shown_on : Meth K (He.ga K "Device") "shown_on" (He.ma K (He.ga K "Device") "shown_on")
  g_Machine : mg "Machine" = some (.ref (He.ga K "Machine"))
  cl_Machine : Cls K (He.ga K "Machine")
  mk_Machine : Mk K (He.ga K "Machine") (He.ma K (He.ga K "Machine") "__init__")
  n_Machine_program : NoAttr K (He.ga K "Machine") "program"
  n_Machine_cells : NoAttr K (He.ga K "Machine") "cells"
  n_Machine_marks : NoAttr K (He.ga K "Machine") "marks"
  n_Machine_row : NoAttr K (He.ga K "Machine") "row"
  n_Machine_spent : NoAttr K (He.ga K "Machine") "spent"
  m_Machine_ended : Meth K (He.ga K "Machine") "ended" (He.ma K (He.ga K "Machine") "ended")
  m_Machine_wanted : Meth K (He.ga K "Machine") "wanted" (He.ma K (He.ga K "Machine") "wanted")
  m_Machine_step : Meth K (He.ga K "Machine") "step" (He.ma K (He.ga K "Machine") "step")
  m_Machine_use_word : Meth K (He.ga K "Machine") "use_word" (He.ma K (He.ga K "Machine") "use_word")
  m_Machine_finish : Meth K (He.ga K "Machine") "finish" (He.ma K (He.ga K "Machine") "finish")
  m_Machine_reckoned : Meth K (He.ga K "Machine") "reckoned" (He.ma K (He.ga K "Machine") "reckoned")
  g_Floor : mg "Floor" = some (.ref (He.ga K "Floor"))
  cl_Floor : Cls K (He.ga K "Floor")
  mk_Floor : Mk K (He.ga K "Floor") (He.ma K (He.ga K "Floor") "__init__")
  n_Floor_machine : NoAttr K (He.ga K "Floor") "machine"
  n_Floor_device : NoAttr K (He.ga K "Floor") "device"
  n_Floor_words : NoAttr K (He.ga K "Floor") "words"
  n_Floor_asks : NoAttr K (He.ga K "Floor") "asks"
  n_Floor_beats : NoAttr K (He.ga K "Floor") "beats"
  m_Floor_pass_beat : Meth K (He.ga K "Floor") "pass_beat" (He.ma K (He.ga K "Floor") "pass_beat")
  m_Floor_seen : Meth K (He.ga K "Floor") "seen" (He.ma K (He.ga K "Floor") "seen")
  g_Watch : mg "Watch" = some (.ref (He.ga K "Watch"))
  cl_Watch : Cls K (He.ga K "Watch")
  mk_Watch : Mk K (He.ga K "Watch") (He.ma K (He.ga K "Watch") "__init__")
  n_Watch_floor : NoAttr K (He.ga K "Watch") "floor"
  n_Watch_dones : NoAttr K (He.ga K "Watch") "dones"
  n_Watch_on_behind : NoAttr K (He.ga K "Watch") "on_behind"
  n_Watch_pairs : NoAttr K (He.ga K "Watch") "pairs"
  n_Watch_first_get : NoAttr K (He.ga K "Watch") "first_get"
  n_Watch_goings : NoAttr K (He.ga K "Watch") "goings"
  m_Watch_run : Meth K (He.ga K "Watch") "run" (He.ma K (He.ga K "Watch") "run")
  m_Watch_run_till : Meth K (He.ga K "Watch") "run_till" (He.ma K (He.ga K "Watch") "run_till")
  m_Watch_step : Meth K (He.ga K "Watch") "step" (He.ma K (He.ga K "Watch") "step")
  m_Watch_note_get : Meth K (He.ga K "Watch") "note_get" (He.ma K (He.ga K "Watch") "note_get")
  u_abs : mg "abs" = none
  u_bool : mg "bool" = none
  u_enumerate : mg "enumerate" = none
  u_int : mg "int" = none
  u_isinstance : mg "isinstance" = none
  u_len : mg "len" = none
  u_list : mg "list" = none
  u_max : mg "max" = none
  u_range : mg "range" = none
  u_str : mg "str" = none
  u_tuple : mg "tuple" = none
  u_zip : mg "zip" = none
  i_FEWEST_WORDS : ∃ t, mg "FEWEST_WORDS" = some (.int 4 t)
  i_MOST_WORDS : ∃ t, mg "MOST_WORDS" = some (.int 32 t)
  i_MOST_ROWS : ∃ t, mg "MOST_ROWS" = some (.int 40 t)
  i_MOST_WORKS : ∃ t, mg "MOST_WORKS" = some (.int 6 t)
  i_MOST_BEATS : ∃ t, mg "MOST_BEATS" = some (.int 300 t)
  i_WIDEST_WINDOW : ∃ t, mg "WIDEST_WINDOW" = some (.int 40 t)
  i_CELLS : ∃ t, mg "CELLS" = some (.int 4 t)
  i_MARKS : ∃ t, mg "MARKS" = some (.int 3 t)
  i_WORTHS : ∃ t, mg "WORTHS" = some (.int 1000 t)
  i_MOST_RESTS : ∃ t, mg "MOST_RESTS" = some (.int 40 t)
  g_GREEDS : mg "GREEDS" = some (.ref (He.ga K "GREEDS"))
  g_FORMS : mg "FORMS" = some (.ref (He.ga K "FORMS"))
  g_BOUNDS : mg "BOUNDS" = some (.ref (He.ga K "BOUNDS"))
  f_is_number : ∃ fd, FunD K "is_number" "is_number" (defArgs s_is_number) (defBody s_is_number) (defScope s_is_number) [] [] (He.ga K "is_number") fd
  f_is_part : ∃ fd, FunD K "is_part" "is_part" (defArgs s_is_part) (defBody s_is_part) (defScope s_is_part) [] [] (He.ga K "is_part") fd
  f_is_one_of : ∃ fd, FunD K "is_one_of" "is_one_of" (defArgs s_is_one_of) (defBody s_is_one_of) (defScope s_is_one_of) [] [] (He.ga K "is_one_of") fd
  f_is_row : ∃ fd, FunD K "is_row" "is_row" (defArgs s_is_row) (defBody s_is_row) (defScope s_is_row) [] [] (He.ga K "is_row") fd
  f_is_work : ∃ fd, FunD K "is_work" "is_work" (defArgs s_is_work) (defBody s_is_work) (defScope s_is_work) [] [] (He.ga K "is_work") fd
  f_is_window : ∃ fd, FunD K "is_window" "is_window" (defArgs s_is_window) (defBody s_is_window) (defScope s_is_window) [] [] (He.ga K "is_window") fd
  f_is_pair : ∃ fd, FunD K "is_pair" "is_pair" (defArgs s_is_pair) (defBody s_is_pair) (defScope s_is_pair) [] [] (He.ga K "is_pair") fd
  f_is_claim : ∃ fd, FunD K "is_claim" "is_claim" (defArgs s_is_claim) (defBody s_is_claim) (defScope s_is_claim) [] [] (He.ga K "is_claim") fd
  f_check_program : ∃ fd, FunD K "check_program" "check_program" (defArgs s_check_program) (defBody s_check_program) (defScope s_check_program) [] [] (He.ga K "check_program") fd
  f_check_works : ∃ fd, FunD K "check_works" "check_works" (defArgs s_check_works) (defBody s_check_works) (defScope s_check_works) [] [] (He.ga K "check_works") fd
  f_check_memory : ∃ fd, FunD K "check_memory" "check_memory" (defArgs s_check_memory) (defBody s_check_memory) (defScope s_check_memory) [] [] (He.ga K "check_memory") fd
  f_check_window : ∃ fd, FunD K "check_window" "check_window" (defArgs s_check_window) (defBody s_check_window) (defScope s_check_window) [] [] (He.ga K "check_window") fd
  f_check_windowed : ∃ fd, FunD K "check_windowed" "check_windowed" (defArgs s_check_windowed) (defBody s_check_windowed) (defScope s_check_windowed) [] [] (He.ga K "check_windowed") fd
  f_check_claim : ∃ fd, FunD K "check_claim" "check_claim" (defArgs s_check_claim) (defBody s_check_claim) (defScope s_check_claim) [] [] (He.ga K "check_claim") fd
  f_check_pair : ∃ fd, FunD K "check_pair" "check_pair" (defArgs s_check_pair) (defBody s_check_pair) (defScope s_check_pair) [] [] (He.ga K "check_pair") fd
  f_check_straight : ∃ fd, FunD K "check_straight" "check_straight" (defArgs s_check_straight) (defBody s_check_straight) (defScope s_check_straight) [] [] (He.ga K "check_straight") fd
  f_Going_init : ∃ fd, FunD K "__init__" "Going.__init__" (defArgs s_Going_init) (defBody s_Going_init) (defScope s_Going_init) [] [] (He.ma K (He.ga K "Going") "__init__") fd
  f_Work_init : ∃ fd, FunD K "__init__" "Work.__init__" (defArgs s_Work_init) (defBody s_Work_init) (defScope s_Work_init) [] [] (He.ma K (He.ga K "Work") "__init__") fd
  f_Work_held_off : ∃ fd, FunD K "held_off" "Work.held_off" (defArgs s_Work_held_off) (defBody s_Work_held_off) (defScope s_Work_held_off) [] [] (He.ma K (He.ga K "Work") "held_off") fd
  f_Work_may_take : ∃ fd, FunD K "may_take" "Work.may_take" (defArgs s_Work_may_take) (defBody s_Work_may_take) (defScope s_Work_may_take) [] [] (He.ma K (He.ga K "Work") "may_take") fd
  f_Work_move : ∃ fd, FunD K "move" "Work.move" (defArgs s_Work_move) (defBody s_Work_move) (defScope s_Work_move) [] [] (He.ma K (He.ga K "Work") "move") fd
  f_Work_fetch : ∃ fd, FunD K "fetch" "Work.fetch" (defArgs s_Work_fetch) (defBody s_Work_fetch) (defScope s_Work_fetch) [] [] (He.ma K (He.ga K "Work") "fetch") fd
  f_Work_lay : ∃ fd, FunD K "lay" "Work.lay" (defArgs s_Work_lay) (defBody s_Work_lay) (defScope s_Work_lay) [] [] (He.ma K (He.ga K "Work") "lay") fd
  f_Device_init : ∃ fd, FunD K "__init__" "Device.__init__" (defArgs s_Device_init) (defBody s_Device_init) (defScope s_Device_init) [] [] (He.ma K (He.ga K "Device") "__init__") fd
  f_Device_is_on : ∃ fd, FunD K "is_on" "Device.is_on" (defArgs s_Device_is_on) (defBody s_Device_is_on) (defScope s_Device_is_on) [] [] (He.ma K (He.ga K "Device") "is_on") fd
  f_Device_wake : ∃ fd, FunD K "wake" "Device.wake" (defArgs s_Device_wake) (defBody s_Device_wake) (defScope s_Device_wake) [] [] (He.ma K (He.ga K "Device") "wake") fd
  f_Device_start : ∃ fd, FunD K "start" "Device.start" (defArgs s_Device_start) (defBody s_Device_start) (defScope s_Device_start) [] [] (He.ma K (He.ga K "Device") "start") fd
  f_Device_move : ∃ fd, FunD K "move" "Device.move" (defArgs s_Device_move) (defBody s_Device_move) (defScope s_Device_move) [] [] (He.ma K (He.ga K "Device") "move") fd
  f_Device_taker : ∃ fd, FunD K "taker" "Device.taker" (defArgs s_Device_taker) (defBody s_Device_taker) (defScope s_Device_taker) [] [] (He.ma K (He.ga K "Device") "taker") fd
  f_Device_numbers_on : ∃ fd, FunD K "numbers_on" "Device.numbers_on" (defArgs s_Device_numbers_on) (defBody s_Device_numbers_on) (defScope s_Device_numbers_on) [] [] (He.ma K (He.ga K "Device") "numbers_on") fd
  f_Device_shown_on : ∃ fd, FunD K "shown_on" "Device.shown_on" (defArgs s_Device_shown_on) (defBody s_Device_shown_on) (defScope s_Device_shown_on) [] [] (He.ma K (He.ga K "Device") "shown_on") fd
  f_beats_of : ∃ fd, FunD K "beats_of" "beats_of" (defArgs s_beats_of) (defBody s_beats_of) (defScope s_beats_of) [] [] (He.ga K "beats_of") fd
  f_word_of : ∃ fd, FunD K "word_of" "word_of" (defArgs s_word_of) (defBody s_word_of) (defScope s_word_of) [] [] (He.ga K "word_of") fd
  f_Machine_init : ∃ fd, FunD K "__init__" "Machine.__init__" (defArgs s_Machine_init) (defBody s_Machine_init) (defScope s_Machine_init) [] [] (He.ma K (He.ga K "Machine") "__init__") fd
  f_Machine_ended : ∃ fd, FunD K "ended" "Machine.ended" (defArgs s_Machine_ended) (defBody s_Machine_ended) (defScope s_Machine_ended) [] [] (He.ma K (He.ga K "Machine") "ended") fd
  f_Machine_wanted : ∃ fd, FunD K "wanted" "Machine.wanted" (defArgs s_Machine_wanted) (defBody s_Machine_wanted) (defScope s_Machine_wanted) [] [] (He.ma K (He.ga K "Machine") "wanted") fd
  f_Machine_step : ∃ fd, FunD K "step" "Machine.step" (defArgs s_Machine_step) (defBody s_Machine_step) (defScope s_Machine_step) [] [] (He.ma K (He.ga K "Machine") "step") fd
  f_Machine_use_word : ∃ fd, FunD K "use_word" "Machine.use_word" (defArgs s_Machine_use_word) (defBody s_Machine_use_word) (defScope s_Machine_use_word) [] [] (He.ma K (He.ga K "Machine") "use_word") fd
  f_Machine_finish : ∃ fd, FunD K "finish" "Machine.finish" (defArgs s_Machine_finish) (defBody s_Machine_finish) (defScope s_Machine_finish) [] [] (He.ma K (He.ga K "Machine") "finish") fd
  f_Machine_reckoned : ∃ fd, FunD K "reckoned" "Machine.reckoned" (defArgs s_Machine_reckoned) (defBody s_Machine_reckoned) (defScope s_Machine_reckoned) [] [] (He.ma K (He.ga K "Machine") "reckoned") fd
  f_Floor_init : ∃ fd, FunD K "__init__" "Floor.__init__" (defArgs s_Floor_init) (defBody s_Floor_init) (defScope s_Floor_init) [] [] (He.ma K (He.ga K "Floor") "__init__") fd
  f_Floor_pass_beat : ∃ fd, FunD K "pass_beat" "Floor.pass_beat" (defArgs s_Floor_pass_beat) (defBody s_Floor_pass_beat) (defScope s_Floor_pass_beat) [] [] (He.ma K (He.ga K "Floor") "pass_beat") fd
  f_Floor_seen : ∃ fd, FunD K "seen" "Floor.seen" (defArgs s_Floor_seen) (defBody s_Floor_seen) (defScope s_Floor_seen) [] [] (He.ma K (He.ga K "Floor") "seen") fd
  f_Watch_init : ∃ fd, FunD K "__init__" "Watch.__init__" (defArgs s_Watch_init) (defBody s_Watch_init) (defScope s_Watch_init) [] [] (He.ma K (He.ga K "Watch") "__init__") fd
  f_Watch_run : ∃ fd, FunD K "run" "Watch.run" (defArgs s_Watch_run) (defBody s_Watch_run) (defScope s_Watch_run) [] [] (He.ma K (He.ga K "Watch") "run") fd
  f_Watch_run_till : ∃ fd, FunD K "run_till" "Watch.run_till" (defArgs s_Watch_run_till) (defBody s_Watch_run_till) (defScope s_Watch_run_till) [] [] (He.ma K (He.ga K "Watch") "run_till") fd
  f_Watch_step : ∃ fd, FunD K "step" "Watch.step" (defArgs s_Watch_step) (defBody s_Watch_step) (defScope s_Watch_step) [] [] (He.ma K (He.ga K "Watch") "step") fd
  f_Watch_note_get : ∃ fd, FunD K "note_get" "Watch.note_get" (defArgs s_Watch_note_get) (defBody s_Watch_note_get) (defScope s_Watch_note_get) [] [] (He.ma K (He.ga K "Watch") "note_get") fd
  f_lays_at : ∃ fd, FunD K "lays_at" "lays_at" (defArgs s_lays_at) (defBody s_lays_at) (defScope s_lays_at) [] [] (He.ga K "lays_at") fd
  f_laid_ahead : ∃ fd, FunD K "laid_ahead" "laid_ahead" (defArgs s_laid_ahead) (defBody s_laid_ahead) (defScope s_laid_ahead) [] [] (He.ga K "laid_ahead") fd
  f_is_torn : ∃ fd, FunD K "is_torn" "is_torn" (defArgs s_is_torn) (defBody s_is_torn) (defScope s_is_torn) [] [] (He.ga K "is_torn") fd
  f_tears : ∃ fd, FunD K "tears" "tears" (defArgs s_tears) (defBody s_tears) (defScope s_tears) [] [] (He.ga K "tears") fd
  f_is_whole : ∃ fd, FunD K "is_whole" "is_whole" (defArgs s_is_whole) (defBody s_is_whole) (defScope s_is_whole) [] [] (He.ga K "is_whole") fd
  f_tears_within : ∃ fd, FunD K "tears_within" "tears_within" (defArgs s_tears_within) (defBody s_tears_within) (defScope s_tears_within) [] [] (He.ga K "tears_within") fd
  f_first_torn : ∃ fd, FunD K "first_torn" "first_torn" (defArgs s_first_torn) (defBody s_first_torn) (defScope s_first_torn) [] [] (He.ga K "first_torn") fd
  f_is_always_whole : ∃ fd, FunD K "is_always_whole" "is_always_whole" (defArgs s_is_always_whole) (defBody s_is_always_whole) (defScope s_is_always_whole) [] [] (He.ga K "is_always_whole") fd
  f_fewest : ∃ fd, FunD K "fewest" "fewest" (defArgs s_fewest) (defBody s_fewest) (defScope s_fewest) [] [] (He.ga K "fewest") fd
  f_rests : ∃ fd, FunD K "rests" "rests" (defArgs s_rests) (defBody s_rests) (defScope s_rests) [] [] (He.ga K "rests") fd
  f_is_over : ∃ fd, FunD K "is_over" "is_over" (defArgs s_is_over) (defBody s_is_over) (defScope s_is_over) [] [] (He.ga K "is_over") fd
  f_is_kept : ∃ fd, FunD K "is_kept" "is_kept" (defArgs s_is_kept) (defBody s_is_kept) (defScope s_is_kept) [] [] (He.ga K "is_kept") fd
  f_holds : ∃ fd, FunD K "holds" "holds" (defArgs s_holds) (defBody s_holds) (defScope s_holds) [] [] (He.ga K "holds") fd
  f_leans : ∃ fd, FunD K "leans" "leans" (defArgs s_leans) (defBody s_leans) (defScope s_leans) [] [] (He.ga K "leans") fd
  f_l_dice : ∃ fd, FunD K "_law_dice" "_law_dice" (defArgs s_l_dice) (defBody s_l_dice) (defScope s_l_dice) [] [] (He.ga K "_law_dice") fd
  f_l_off : ∃ fd, FunD K "_law_off" "_law_off" (defArgs s_l_off) (defBody s_l_off) (defScope s_l_off) [] [] (He.ga K "_law_off") fd
  f_l_words : ∃ fd, FunD K "_law_words" "_law_words" (defArgs s_l_words) (defBody s_l_words) (defScope s_l_words) [] [] (He.ga K "_law_words") fd
  f_l_work : ∃ fd, FunD K "_law_work" "_law_work" (defArgs s_l_work) (defBody s_l_work) (defScope s_l_work) [] [] (He.ga K "_law_work") fd
  f_l_row : ∃ fd, FunD K "_law_row" "_law_row" (defArgs s_l_row) (defBody s_l_row) (defScope s_l_row) [] [] (He.ga K "_law_row") fd
  f_l_near : ∃ fd, FunD K "_law_near" "_law_near" (defArgs s_l_near) (defBody s_l_near) (defScope s_l_near) [] [] (He.ga K "_law_near") fd
  f_l_rest_rows : ∃ fd, FunD K "_law_rest_rows" "_law_rest_rows" (defArgs s_l_rest_rows) (defBody s_l_rest_rows) (defScope s_l_rest_rows) [] [] (He.ga K "_law_rest_rows") fd
  f_law : ∃ fd, FunD K "law" "law" (defArgs s_law) (defBody s_law) (defScope s_law) [] [] (He.ga K "law") fd
  d_FORMS : ∃ es n, KDict K w (He.ga K "FORMS") es n
  d_BOUNDS : ∃ es n, KDict K w (He.ga K "BOUNDS") es n
  tt_GREEDS : ∀ H, SqT K H (He.ga K "GREEDS") [.str "all", .str "turn", .str "idle"]
  e_FORMS_set : Ent K "FORMS" "set" [.str "cell", .str "word"]
  e_FORMS_add : Ent K "FORMS" "add" [.str "cell", .str "cell"]
  e_FORMS_less : Ent K "FORMS" "less" [.str "cell", .str "cell"]
  e_FORMS_get : Ent K "FORMS" "get" [.str "cell", .str "address"]
  e_FORMS_put : Ent K "FORMS" "put" [.str "address", .str "cell"]
  e_FORMS_getx : Ent K "FORMS" "getx" [.str "cell", .str "cell"]
  e_FORMS_putx : Ent K "FORMS" "putx" [.str "cell", .str "cell"]
  e_FORMS_pair : Ent K "FORMS" "pair" [.str "first", .str "address"]
  e_FORMS_lay : Ent K "FORMS" "lay" [.str "address", .str "first"]
  e_FORMS_go : Ent K "FORMS" "go" [.str "row"]
  e_FORMS_if : Ent K "FORMS" "if" [.str "cell", .str "row"]
  e_FORMS_ask : Ent K "FORMS" "ask" [.str "work"]
  e_FORMS_done : Ent K "FORMS" "done" [.str "cell", .str "work"]
  e_FORMS_mark : Ent K "FORMS" "mark" [.str "mark"]
  e_FORMS_clear : Ent K "FORMS" "clear" [.str "mark"]
  e_FORMS_rest : Ent K "FORMS" "rest" [.str "rest"]
  e_FORMS_end : Ent K "FORMS" "end" []
  e_BOUNDS_cell : Ent K "BOUNDS" "cell" [.int 0, .int 3]
  e_BOUNDS_first : Ent K "BOUNDS" "first" [.int 0, .int 2]
  e_BOUNDS_word : Ent K "BOUNDS" "word" [.int 0, .int 999]
  e_BOUNDS_address : Ent K "BOUNDS" "address" [.int 0, .int 31]
  e_BOUNDS_work : Ent K "BOUNDS" "work" [.int 0, .int 5]
  e_BOUNDS_mark : Ent K "BOUNDS" "mark" [.int 0, .int 2]
  e_BOUNDS_rest : Ent K "BOUNDS" "rest" [.int 1, .int 9]
  e_BOUNDS_many : Ent K "BOUNDS" "many" [.int 1, .int 16]
  e_BOUNDS_block : Ent K "BOUNDS" "block" [.int 1, .int 4]
  e_BOUNDS_ask : Ent K "BOUNDS" "ask" [.int 0, .int 200]
  k_is_number : PySem.W.keepIn K (.ref (He.ga K "is_number")) = true
  k_is_part : PySem.W.keepIn K (.ref (He.ga K "is_part")) = true
  k_is_one_of : PySem.W.keepIn K (.ref (He.ga K "is_one_of")) = true
  k_is_row : PySem.W.keepIn K (.ref (He.ga K "is_row")) = true
  k_is_work : PySem.W.keepIn K (.ref (He.ga K "is_work")) = true
  k_is_window : PySem.W.keepIn K (.ref (He.ga K "is_window")) = true
  k_is_pair : PySem.W.keepIn K (.ref (He.ga K "is_pair")) = true
  k_is_claim : PySem.W.keepIn K (.ref (He.ga K "is_claim")) = true
  k_check_program : PySem.W.keepIn K (.ref (He.ga K "check_program")) = true
  k_check_works : PySem.W.keepIn K (.ref (He.ga K "check_works")) = true
  k_check_memory : PySem.W.keepIn K (.ref (He.ga K "check_memory")) = true
  k_check_window : PySem.W.keepIn K (.ref (He.ga K "check_window")) = true
  k_check_windowed : PySem.W.keepIn K (.ref (He.ga K "check_windowed")) = true
  k_check_claim : PySem.W.keepIn K (.ref (He.ga K "check_claim")) = true
  k_check_pair : PySem.W.keepIn K (.ref (He.ga K "check_pair")) = true
  k_check_straight : PySem.W.keepIn K (.ref (He.ga K "check_straight")) = true
  k_beats_of : PySem.W.keepIn K (.ref (He.ga K "beats_of")) = true
  k_word_of : PySem.W.keepIn K (.ref (He.ga K "word_of")) = true
  k_lays_at : PySem.W.keepIn K (.ref (He.ga K "lays_at")) = true
  k_laid_ahead : PySem.W.keepIn K (.ref (He.ga K "laid_ahead")) = true
  k_is_torn : PySem.W.keepIn K (.ref (He.ga K "is_torn")) = true
  k_tears : PySem.W.keepIn K (.ref (He.ga K "tears")) = true
  k_is_whole : PySem.W.keepIn K (.ref (He.ga K "is_whole")) = true
  k_tears_within : PySem.W.keepIn K (.ref (He.ga K "tears_within")) = true
  k_first_torn : PySem.W.keepIn K (.ref (He.ga K "first_torn")) = true
  k_is_always_whole : PySem.W.keepIn K (.ref (He.ga K "is_always_whole")) = true
  k_fewest : PySem.W.keepIn K (.ref (He.ga K "fewest")) = true
  k_rests : PySem.W.keepIn K (.ref (He.ga K "rests")) = true
  k_is_over : PySem.W.keepIn K (.ref (He.ga K "is_over")) = true
  k_is_kept : PySem.W.keepIn K (.ref (He.ga K "is_kept")) = true
  k_holds : PySem.W.keepIn K (.ref (He.ga K "holds")) = true
  k_leans : PySem.W.keepIn K (.ref (He.ga K "leans")) = true
  k_l_dice : PySem.W.keepIn K (.ref (He.ga K "_law_dice")) = true
  k_l_off : PySem.W.keepIn K (.ref (He.ga K "_law_off")) = true
  k_l_words : PySem.W.keepIn K (.ref (He.ga K "_law_words")) = true
  k_l_work : PySem.W.keepIn K (.ref (He.ga K "_law_work")) = true
  k_l_row : PySem.W.keepIn K (.ref (He.ga K "_law_row")) = true
  k_l_near : PySem.W.keepIn K (.ref (He.ga K "_law_near")) = true
  k_l_rest_rows : PySem.W.keepIn K (.ref (He.ga K "_law_rest_rows")) = true
  k_law : PySem.W.keepIn K (.ref (He.ga K "law")) = true
end SB

set_option Elab.async false
set_option linter.all false
set_option maxRecDepth 100000
set_option maxHeartbeats 2000000
set_option maxHeartbeats 0
namespace SB
open PySem PySem.Spec PyProof.Rows L2
def d_is_number : He.DefD := ⟨("is_number", none), "is_number", "is_number", defArgs s_is_number, defBody s_is_number, defScope s_is_number, [], []⟩
def d_is_part : He.DefD := ⟨("is_part", none), "is_part", "is_part", defArgs s_is_part, defBody s_is_part, defScope s_is_part, [], []⟩
def d_is_one_of : He.DefD := ⟨("is_one_of", none), "is_one_of", "is_one_of", defArgs s_is_one_of, defBody s_is_one_of, defScope s_is_one_of, [], []⟩
def d_is_row : He.DefD := ⟨("is_row", none), "is_row", "is_row", defArgs s_is_row, defBody s_is_row, defScope s_is_row, [], []⟩
def d_is_work : He.DefD := ⟨("is_work", none), "is_work", "is_work", defArgs s_is_work, defBody s_is_work, defScope s_is_work, [], []⟩
def d_is_window : He.DefD := ⟨("is_window", none), "is_window", "is_window", defArgs s_is_window, defBody s_is_window, defScope s_is_window, [], []⟩
def d_is_pair : He.DefD := ⟨("is_pair", none), "is_pair", "is_pair", defArgs s_is_pair, defBody s_is_pair, defScope s_is_pair, [], []⟩
def d_is_claim : He.DefD := ⟨("is_claim", none), "is_claim", "is_claim", defArgs s_is_claim, defBody s_is_claim, defScope s_is_claim, [], []⟩
def d_check_program : He.DefD := ⟨("check_program", none), "check_program", "check_program", defArgs s_check_program, defBody s_check_program, defScope s_check_program, [], []⟩
def d_check_works : He.DefD := ⟨("check_works", none), "check_works", "check_works", defArgs s_check_works, defBody s_check_works, defScope s_check_works, [], []⟩
def d_check_memory : He.DefD := ⟨("check_memory", none), "check_memory", "check_memory", defArgs s_check_memory, defBody s_check_memory, defScope s_check_memory, [], []⟩
def d_check_window : He.DefD := ⟨("check_window", none), "check_window", "check_window", defArgs s_check_window, defBody s_check_window, defScope s_check_window, [], []⟩
def d_check_windowed : He.DefD := ⟨("check_windowed", none), "check_windowed", "check_windowed", defArgs s_check_windowed, defBody s_check_windowed, defScope s_check_windowed, [], []⟩
def d_check_claim : He.DefD := ⟨("check_claim", none), "check_claim", "check_claim", defArgs s_check_claim, defBody s_check_claim, defScope s_check_claim, [], []⟩
def d_check_pair : He.DefD := ⟨("check_pair", none), "check_pair", "check_pair", defArgs s_check_pair, defBody s_check_pair, defScope s_check_pair, [], []⟩
def d_check_straight : He.DefD := ⟨("check_straight", none), "check_straight", "check_straight", defArgs s_check_straight, defBody s_check_straight, defScope s_check_straight, [], []⟩
def d_Going_init : He.DefD := ⟨("Going", some "__init__"), "__init__", "Going.__init__", defArgs s_Going_init, defBody s_Going_init, defScope s_Going_init, [], []⟩
def d_Work_init : He.DefD := ⟨("Work", some "__init__"), "__init__", "Work.__init__", defArgs s_Work_init, defBody s_Work_init, defScope s_Work_init, [], []⟩
def d_Work_held_off : He.DefD := ⟨("Work", some "held_off"), "held_off", "Work.held_off", defArgs s_Work_held_off, defBody s_Work_held_off, defScope s_Work_held_off, [], []⟩
def d_Work_may_take : He.DefD := ⟨("Work", some "may_take"), "may_take", "Work.may_take", defArgs s_Work_may_take, defBody s_Work_may_take, defScope s_Work_may_take, [], []⟩
def d_Work_move : He.DefD := ⟨("Work", some "move"), "move", "Work.move", defArgs s_Work_move, defBody s_Work_move, defScope s_Work_move, [], []⟩
def d_Work_fetch : He.DefD := ⟨("Work", some "fetch"), "fetch", "Work.fetch", defArgs s_Work_fetch, defBody s_Work_fetch, defScope s_Work_fetch, [], []⟩
def d_Work_lay : He.DefD := ⟨("Work", some "lay"), "lay", "Work.lay", defArgs s_Work_lay, defBody s_Work_lay, defScope s_Work_lay, [], []⟩
def d_Device_init : He.DefD := ⟨("Device", some "__init__"), "__init__", "Device.__init__", defArgs s_Device_init, defBody s_Device_init, defScope s_Device_init, [], []⟩
def d_Device_is_on : He.DefD := ⟨("Device", some "is_on"), "is_on", "Device.is_on", defArgs s_Device_is_on, defBody s_Device_is_on, defScope s_Device_is_on, [], []⟩
def d_Device_wake : He.DefD := ⟨("Device", some "wake"), "wake", "Device.wake", defArgs s_Device_wake, defBody s_Device_wake, defScope s_Device_wake, [], []⟩
def d_Device_start : He.DefD := ⟨("Device", some "start"), "start", "Device.start", defArgs s_Device_start, defBody s_Device_start, defScope s_Device_start, [], []⟩
def d_Device_move : He.DefD := ⟨("Device", some "move"), "move", "Device.move", defArgs s_Device_move, defBody s_Device_move, defScope s_Device_move, [], []⟩
def d_Device_taker : He.DefD := ⟨("Device", some "taker"), "taker", "Device.taker", defArgs s_Device_taker, defBody s_Device_taker, defScope s_Device_taker, [], []⟩
def d_Device_numbers_on : He.DefD := ⟨("Device", some "numbers_on"), "numbers_on", "Device.numbers_on", defArgs s_Device_numbers_on, defBody s_Device_numbers_on, defScope s_Device_numbers_on, [], []⟩
def d_Device_shown_on : He.DefD := ⟨("Device", some "shown_on"), "shown_on", "Device.shown_on", defArgs s_Device_shown_on, defBody s_Device_shown_on, defScope s_Device_shown_on, [], []⟩
def d_beats_of : He.DefD := ⟨("beats_of", none), "beats_of", "beats_of", defArgs s_beats_of, defBody s_beats_of, defScope s_beats_of, [], []⟩
def d_word_of : He.DefD := ⟨("word_of", none), "word_of", "word_of", defArgs s_word_of, defBody s_word_of, defScope s_word_of, [], []⟩
def d_Machine_init : He.DefD := ⟨("Machine", some "__init__"), "__init__", "Machine.__init__", defArgs s_Machine_init, defBody s_Machine_init, defScope s_Machine_init, [], []⟩
def d_Machine_ended : He.DefD := ⟨("Machine", some "ended"), "ended", "Machine.ended", defArgs s_Machine_ended, defBody s_Machine_ended, defScope s_Machine_ended, [], []⟩
def d_Machine_wanted : He.DefD := ⟨("Machine", some "wanted"), "wanted", "Machine.wanted", defArgs s_Machine_wanted, defBody s_Machine_wanted, defScope s_Machine_wanted, [], []⟩
def d_Machine_step : He.DefD := ⟨("Machine", some "step"), "step", "Machine.step", defArgs s_Machine_step, defBody s_Machine_step, defScope s_Machine_step, [], []⟩
def d_Machine_use_word : He.DefD := ⟨("Machine", some "use_word"), "use_word", "Machine.use_word", defArgs s_Machine_use_word, defBody s_Machine_use_word, defScope s_Machine_use_word, [], []⟩
def d_Machine_finish : He.DefD := ⟨("Machine", some "finish"), "finish", "Machine.finish", defArgs s_Machine_finish, defBody s_Machine_finish, defScope s_Machine_finish, [], []⟩
def d_Machine_reckoned : He.DefD := ⟨("Machine", some "reckoned"), "reckoned", "Machine.reckoned", defArgs s_Machine_reckoned, defBody s_Machine_reckoned, defScope s_Machine_reckoned, [], []⟩
def d_Floor_init : He.DefD := ⟨("Floor", some "__init__"), "__init__", "Floor.__init__", defArgs s_Floor_init, defBody s_Floor_init, defScope s_Floor_init, [], []⟩
def d_Floor_pass_beat : He.DefD := ⟨("Floor", some "pass_beat"), "pass_beat", "Floor.pass_beat", defArgs s_Floor_pass_beat, defBody s_Floor_pass_beat, defScope s_Floor_pass_beat, [], []⟩
def d_Floor_seen : He.DefD := ⟨("Floor", some "seen"), "seen", "Floor.seen", defArgs s_Floor_seen, defBody s_Floor_seen, defScope s_Floor_seen, [], []⟩
def d_Watch_init : He.DefD := ⟨("Watch", some "__init__"), "__init__", "Watch.__init__", defArgs s_Watch_init, defBody s_Watch_init, defScope s_Watch_init, [], []⟩
def d_Watch_run : He.DefD := ⟨("Watch", some "run"), "run", "Watch.run", defArgs s_Watch_run, defBody s_Watch_run, defScope s_Watch_run, [], []⟩
def d_Watch_run_till : He.DefD := ⟨("Watch", some "run_till"), "run_till", "Watch.run_till", defArgs s_Watch_run_till, defBody s_Watch_run_till, defScope s_Watch_run_till, [], []⟩
def d_Watch_step : He.DefD := ⟨("Watch", some "step"), "step", "Watch.step", defArgs s_Watch_step, defBody s_Watch_step, defScope s_Watch_step, [], []⟩
def d_Watch_note_get : He.DefD := ⟨("Watch", some "note_get"), "note_get", "Watch.note_get", defArgs s_Watch_note_get, defBody s_Watch_note_get, defScope s_Watch_note_get, [], []⟩
def d_lays_at : He.DefD := ⟨("lays_at", none), "lays_at", "lays_at", defArgs s_lays_at, defBody s_lays_at, defScope s_lays_at, [], []⟩
def d_laid_ahead : He.DefD := ⟨("laid_ahead", none), "laid_ahead", "laid_ahead", defArgs s_laid_ahead, defBody s_laid_ahead, defScope s_laid_ahead, [], []⟩
def d_is_torn : He.DefD := ⟨("is_torn", none), "is_torn", "is_torn", defArgs s_is_torn, defBody s_is_torn, defScope s_is_torn, [], []⟩
def d_tears : He.DefD := ⟨("tears", none), "tears", "tears", defArgs s_tears, defBody s_tears, defScope s_tears, [], []⟩
def d_is_whole : He.DefD := ⟨("is_whole", none), "is_whole", "is_whole", defArgs s_is_whole, defBody s_is_whole, defScope s_is_whole, [], []⟩
def d_tears_within : He.DefD := ⟨("tears_within", none), "tears_within", "tears_within", defArgs s_tears_within, defBody s_tears_within, defScope s_tears_within, [], []⟩
def d_first_torn : He.DefD := ⟨("first_torn", none), "first_torn", "first_torn", defArgs s_first_torn, defBody s_first_torn, defScope s_first_torn, [], []⟩
def d_is_always_whole : He.DefD := ⟨("is_always_whole", none), "is_always_whole", "is_always_whole", defArgs s_is_always_whole, defBody s_is_always_whole, defScope s_is_always_whole, [], []⟩
def d_fewest : He.DefD := ⟨("fewest", none), "fewest", "fewest", defArgs s_fewest, defBody s_fewest, defScope s_fewest, [], []⟩
def d_rests : He.DefD := ⟨("rests", none), "rests", "rests", defArgs s_rests, defBody s_rests, defScope s_rests, [], []⟩
def d_is_over : He.DefD := ⟨("is_over", none), "is_over", "is_over", defArgs s_is_over, defBody s_is_over, defScope s_is_over, [], []⟩
def d_is_kept : He.DefD := ⟨("is_kept", none), "is_kept", "is_kept", defArgs s_is_kept, defBody s_is_kept, defScope s_is_kept, [], []⟩
def d_holds : He.DefD := ⟨("holds", none), "holds", "holds", defArgs s_holds, defBody s_holds, defScope s_holds, [], []⟩
def d_leans : He.DefD := ⟨("leans", none), "leans", "leans", defArgs s_leans, defBody s_leans, defScope s_leans, [], []⟩
def d_l_dice : He.DefD := ⟨("_law_dice", none), "_law_dice", "_law_dice", defArgs s_l_dice, defBody s_l_dice, defScope s_l_dice, [], []⟩
def d_l_off : He.DefD := ⟨("_law_off", none), "_law_off", "_law_off", defArgs s_l_off, defBody s_l_off, defScope s_l_off, [], []⟩
def d_l_words : He.DefD := ⟨("_law_words", none), "_law_words", "_law_words", defArgs s_l_words, defBody s_l_words, defScope s_l_words, [], []⟩
def d_l_work : He.DefD := ⟨("_law_work", none), "_law_work", "_law_work", defArgs s_l_work, defBody s_l_work, defScope s_l_work, [], []⟩
def d_l_row : He.DefD := ⟨("_law_row", none), "_law_row", "_law_row", defArgs s_l_row, defBody s_l_row, defScope s_l_row, [], []⟩
def d_l_near : He.DefD := ⟨("_law_near", none), "_law_near", "_law_near", defArgs s_l_near, defBody s_l_near, defScope s_l_near, [], []⟩
def d_l_rest_rows : He.DefD := ⟨("_law_rest_rows", none), "_law_rest_rows", "_law_rest_rows", defArgs s_l_rest_rows, defBody s_l_rest_rows, defScope s_l_rest_rows, [], []⟩
def d_law : He.DefD := ⟨("law", none), "law", "law", defArgs s_law, defBody s_law, defScope s_law, [], []⟩
def fn : List He.DefD := ([d_is_number, d_is_part, d_is_one_of, d_is_row, d_is_work, d_is_window, d_is_pair, d_is_claim, d_check_program, d_check_works] : List He.DefD) ++ ([d_check_memory, d_check_window, d_check_windowed, d_check_claim, d_check_pair, d_check_straight, d_Going_init, d_Work_init, d_Work_held_off, d_Work_may_take] : List He.DefD) ++ ([d_Work_move, d_Work_fetch, d_Work_lay, d_Device_init, d_Device_is_on, d_Device_wake, d_Device_start, d_Device_move, d_Device_taker, d_Device_numbers_on] : List He.DefD) ++ ([d_Device_shown_on, d_beats_of, d_word_of, d_Machine_init, d_Machine_ended, d_Machine_wanted, d_Machine_step, d_Machine_use_word, d_Machine_finish, d_Machine_reckoned] : List He.DefD) ++ ([d_Floor_init, d_Floor_pass_beat, d_Floor_seen, d_Watch_init, d_Watch_run, d_Watch_run_till, d_Watch_step, d_Watch_note_get, d_lays_at, d_laid_ahead] : List He.DefD) ++ ([d_is_torn, d_tears, d_is_whole, d_tears_within, d_first_torn, d_is_always_whole, d_fewest, d_rests, d_is_over, d_is_kept] : List He.DefD) ++ ([d_holds, d_leans, d_l_dice, d_l_off, d_l_words, d_l_work, d_l_row, d_l_near, d_l_rest_rows, d_law] : List He.DefD)
def fa : List He.Fa := ([.glo "is_number", .glo "is_part", .glo "is_one_of", .glo "is_row", .glo "is_work", .glo "is_window", .glo "is_pair", .glo "is_claim", .glo "check_program", .glo "check_works"] : List He.Fa) ++ ([.glo "check_memory", .glo "check_window", .glo "check_windowed", .glo "check_claim", .glo "check_pair", .glo "check_straight", .glo "beats_of", .glo "word_of", .glo "lays_at", .glo "laid_ahead"] : List He.Fa) ++ ([.glo "is_torn", .glo "tears", .glo "is_whole", .glo "tears_within", .glo "first_torn", .glo "is_always_whole", .glo "fewest", .glo "rests", .glo "is_over", .glo "is_kept"] : List He.Fa) ++ ([.glo "holds", .glo "leans", .glo "_law_dice", .glo "_law_off", .glo "_law_words", .glo "_law_work", .glo "_law_row", .glo "_law_near", .glo "_law_rest_rows", .glo "law"] : List He.Fa) ++ ([.glo "Going", .cls "Going", .mkr "Going", .noat "Going" "number", .noat "Going" "hand", .noat "Going" "puts", .glo "Work", .cls "Work", .mkr "Work", .noat "Work" "begin"] : List He.Fa) ++ ([.noat "Work" "goal", .noat "Work" "many", .noat "Work" "block", .noat "Work" "greed", .noat "Work" "mark", .noat "Work" "follow", .noat "Work" "going", .meth "Work" "held_off", .meth "Work" "may_take", .meth "Work" "move"] : List He.Fa) ++ ([.meth "Work" "fetch", .meth "Work" "lay", .glo "Device", .cls "Device", .mkr "Device", .noat "Device" "works", .noat "Device" "took", .noat "Device" "begun", .meth "Device" "is_on", .meth "Device" "wake"] : List He.Fa) ++ ([.meth "Device" "start", .meth "Device" "move", .meth "Device" "taker", .meth "Device" "numbers_on", .meth "Device" "shown_on", .glo "Machine", .cls "Machine", .mkr "Machine", .noat "Machine" "program", .noat "Machine" "cells"] : List He.Fa) ++ ([.noat "Machine" "marks", .noat "Machine" "row", .noat "Machine" "spent", .meth "Machine" "ended", .meth "Machine" "wanted", .meth "Machine" "step", .meth "Machine" "use_word", .meth "Machine" "finish", .meth "Machine" "reckoned", .glo "Floor"] : List He.Fa) ++ ([.cls "Floor", .mkr "Floor", .noat "Floor" "machine", .noat "Floor" "device", .noat "Floor" "words", .noat "Floor" "asks", .noat "Floor" "beats", .meth "Floor" "pass_beat", .meth "Floor" "seen", .glo "Watch"] : List He.Fa) ++ ([.cls "Watch", .mkr "Watch", .noat "Watch" "floor", .noat "Watch" "dones", .noat "Watch" "on_behind", .noat "Watch" "pairs", .noat "Watch" "first_get", .noat "Watch" "goings", .meth "Watch" "run", .meth "Watch" "run_till"] : List He.Fa) ++ ([.meth "Watch" "step", .meth "Watch" "note_get", .free "abs", .free "bool", .free "enumerate", .free "int", .free "isinstance", .free "len", .free "list", .free "max"] : List He.Fa) ++ ([.free "range", .free "str", .free "tuple", .free "zip", .int "FEWEST_WORDS" 4, .int "MOST_WORDS" 32, .int "MOST_ROWS" 40, .int "MOST_WORKS" 6, .int "MOST_BEATS" 300, .int "WIDEST_WINDOW" 40] : List He.Fa) ++ ([.int "CELLS" 4, .int "MARKS" 3, .int "WORTHS" 1000, .int "MOST_RESTS" 40, .glo "GREEDS", .glo "FORMS", .glo "BOUNDS"] : List He.Fa)
def tab_FORMS : He.Tab := (fun K => He.ga K "FORMS", ["set", "add", "less", "get", "put", "getx", "putx", "pair", "lay", "go", "if", "ask", "done", "mark", "clear", "rest", "end"])
def tab_BOUNDS : He.Tab := (fun K => He.ga K "BOUNDS", ["cell", "first", "word", "address", "work", "mark", "rest", "many", "block", "ask"])
def ts : List He.Tab := [tab_FORMS, tab_BOUNDS]
def exs : List (PySem.W.Frag → Bool) := ([(fun K => He.tupB K "GREEDS" [.str "all", .str "turn", .str "idle"]), (fun K => entB K "FORMS" "set" [.str "cell", .str "word"]), (fun K => entB K "FORMS" "add" [.str "cell", .str "cell"]), (fun K => entB K "FORMS" "less" [.str "cell", .str "cell"]), (fun K => entB K "FORMS" "get" [.str "cell", .str "address"]), (fun K => entB K "FORMS" "put" [.str "address", .str "cell"]), (fun K => entB K "FORMS" "getx" [.str "cell", .str "cell"]), (fun K => entB K "FORMS" "putx" [.str "cell", .str "cell"])] : List (PySem.W.Frag → Bool)) ++ ([(fun K => entB K "FORMS" "pair" [.str "first", .str "address"]), (fun K => entB K "FORMS" "lay" [.str "address", .str "first"]), (fun K => entB K "FORMS" "go" [.str "row"]), (fun K => entB K "FORMS" "if" [.str "cell", .str "row"]), (fun K => entB K "FORMS" "ask" [.str "work"]), (fun K => entB K "FORMS" "done" [.str "cell", .str "work"]), (fun K => entB K "FORMS" "mark" [.str "mark"]), (fun K => entB K "FORMS" "clear" [.str "mark"])] : List (PySem.W.Frag → Bool)) ++ ([(fun K => entB K "FORMS" "rest" [.str "rest"]), (fun K => entB K "FORMS" "end" []), (fun K => entB K "BOUNDS" "cell" [.int 0, .int 3]), (fun K => entB K "BOUNDS" "first" [.int 0, .int 2]), (fun K => entB K "BOUNDS" "word" [.int 0, .int 999]), (fun K => entB K "BOUNDS" "address" [.int 0, .int 31]), (fun K => entB K "BOUNDS" "work" [.int 0, .int 5]), (fun K => entB K "BOUNDS" "mark" [.int 0, .int 2])] : List (PySem.W.Frag → Bool)) ++ ([(fun K => entB K "BOUNDS" "rest" [.int 1, .int 9]), (fun K => entB K "BOUNDS" "many" [.int 1, .int 16]), (fun K => entB K "BOUNDS" "block" [.int 1, .int 4]), (fun K => entB K "BOUNDS" "ask" [.int 0, .int 200])] : List (PySem.W.Frag → Bool))
def ex (K : PySem.W.Frag) : Bool := exs.all fun b => b K
theorem exB_ok {K : PySem.W.Frag} (h : ex K = true) (i : Nat) {b : PySem.W.Frag → Bool} (e : exs[i]? = some b) : b K = true := List.all_eq_true.mp h b (List.mem_of_getElem? e)
abbrev R : PySem.W.OpenRow := PySem.W.OpenLaw.row PySem.Challenge.rw_stealbeats_k22_whole_rests_are_enough
def tf : List He.Defn := []
abbrev hk : PySem.W.Hook := He.hookX 4 fa fn ts tf ex
def ob (s : PySem.W.SharedT) : He.AlX := He.obsX 4 fa fn ts tf ex (HandSHeadRun.getT s)
theorem ob_eq (s : PySem.W.SharedT) : ob s = hk.obs s.abs := He.obsX_eq (HandSHeadRun.getT_eq s)
def loose : List Str := (["BeatError", "BadMemory", "BadWindow", "BadClaim", "BadRow", "Crooked", "BadProgram", "BadWorks", "FORMS", "BOUNDS", "GREEDS", "FEWEST_WORDS"] : List Str) ++ (["MOST_WORDS", "MOST_ROWS", "MOST_WORKS", "MOST_BEATS", "WIDEST_WINDOW", "is_number", "is_part", "is_one_of", "is_row", "is_work", "is_window", "is_pair"] : List Str) ++ (["is_claim", "check_program", "check_works", "check_memory", "check_window", "check_windowed", "check_claim", "check_pair", "check_straight", "Going", "Work", "Device"] : List Str) ++ (["CELLS", "MARKS", "WORTHS", "beats_of", "word_of", "Machine", "Floor", "Watch", "lays_at", "laid_ahead", "is_torn", "tears"] : List Str) ++ (["is_whole", "tears_within", "first_torn", "MOST_RESTS", "is_always_whole", "fewest", "rests", "is_over", "is_kept", "holds", "leans", "_law_dice"] : List Str) ++ (["_law_off", "_law_words", "_law_work", "_law_row", "_law_near", "_law_rest_rows"] : List Str)
theorem mkT {w : World} {K : PySem.W.Frag} {h : Heap} {mg : Str → Option Value} (X : K.In h) (G : h.Ns mainGlobals mg) (c : He.SaysX fa fn ts tf ex w h K) : T w K mg where
  g_is_number := He.glo_ok X G (c.t.d.fact 0 rfl)
  g_is_part := He.glo_ok X G (c.t.d.fact 1 rfl)
  g_is_one_of := He.glo_ok X G (c.t.d.fact 2 rfl)
  g_is_row := He.glo_ok X G (c.t.d.fact 3 rfl)
  g_is_work := He.glo_ok X G (c.t.d.fact 4 rfl)
  g_is_window := He.glo_ok X G (c.t.d.fact 5 rfl)
  g_is_pair := He.glo_ok X G (c.t.d.fact 6 rfl)
  g_is_claim := He.glo_ok X G (c.t.d.fact 7 rfl)
  g_check_program := He.glo_ok X G (c.t.d.fact 8 rfl)
  g_check_works := He.glo_ok X G (c.t.d.fact 9 rfl)
  g_check_memory := He.glo_ok X G (c.t.d.fact 10 rfl)
  g_check_window := He.glo_ok X G (c.t.d.fact 11 rfl)
  g_check_windowed := He.glo_ok X G (c.t.d.fact 12 rfl)
  g_check_claim := He.glo_ok X G (c.t.d.fact 13 rfl)
  g_check_pair := He.glo_ok X G (c.t.d.fact 14 rfl)
  g_check_straight := He.glo_ok X G (c.t.d.fact 15 rfl)
  g_beats_of := He.glo_ok X G (c.t.d.fact 16 rfl)
  g_word_of := He.glo_ok X G (c.t.d.fact 17 rfl)
  g_lays_at := He.glo_ok X G (c.t.d.fact 18 rfl)
  g_laid_ahead := He.glo_ok X G (c.t.d.fact 19 rfl)
  g_is_torn := He.glo_ok X G (c.t.d.fact 20 rfl)
  g_tears := He.glo_ok X G (c.t.d.fact 21 rfl)
  g_is_whole := He.glo_ok X G (c.t.d.fact 22 rfl)
  g_tears_within := He.glo_ok X G (c.t.d.fact 23 rfl)
  g_first_torn := He.glo_ok X G (c.t.d.fact 24 rfl)
  g_is_always_whole := He.glo_ok X G (c.t.d.fact 25 rfl)
  g_fewest := He.glo_ok X G (c.t.d.fact 26 rfl)
  g_rests := He.glo_ok X G (c.t.d.fact 27 rfl)
  g_is_over := He.glo_ok X G (c.t.d.fact 28 rfl)
  g_is_kept := He.glo_ok X G (c.t.d.fact 29 rfl)
  g_holds := He.glo_ok X G (c.t.d.fact 30 rfl)
  g_leans := He.glo_ok X G (c.t.d.fact 31 rfl)
  g_l_dice := He.glo_ok X G (c.t.d.fact 32 rfl)
  g_l_off := He.glo_ok X G (c.t.d.fact 33 rfl)
  g_l_words := He.glo_ok X G (c.t.d.fact 34 rfl)
  g_l_work := He.glo_ok X G (c.t.d.fact 35 rfl)
  g_l_row := He.glo_ok X G (c.t.d.fact 36 rfl)
  g_l_near := He.glo_ok X G (c.t.d.fact 37 rfl)
  g_l_rest_rows := He.glo_ok X G (c.t.d.fact 38 rfl)
  g_law := He.glo_ok X G (c.t.d.fact 39 rfl)
  g_Going := He.glo_ok X G (c.t.d.fact 40 rfl)
  cl_Going := He.cls_ok (c.t.d.fact 41 rfl)
  mk_Going := He.mkr_ok (c.t.d.fact 42 rfl)
  n_Going_number := He.noat_ok (c.t.d.fact 43 rfl)
  n_Going_hand := He.noat_ok (c.t.d.fact 44 rfl)
  n_Going_puts := He.noat_ok (c.t.d.fact 45 rfl)
  g_Work := He.glo_ok X G (c.t.d.fact 46 rfl)
  cl_Work := He.cls_ok (c.t.d.fact 47 rfl)
  mk_Work := He.mkr_ok (c.t.d.fact 48 rfl)
  n_Work_begin := He.noat_ok (c.t.d.fact 49 rfl)
  n_Work_goal := He.noat_ok (c.t.d.fact 50 rfl)
  n_Work_many := He.noat_ok (c.t.d.fact 51 rfl)
  n_Work_block := He.noat_ok (c.t.d.fact 52 rfl)
  n_Work_greed := He.noat_ok (c.t.d.fact 53 rfl)
  n_Work_mark := He.noat_ok (c.t.d.fact 54 rfl)
  n_Work_follow := He.noat_ok (c.t.d.fact 55 rfl)
  n_Work_going := He.noat_ok (c.t.d.fact 56 rfl)
  m_Work_held_off := He.meth_ok (c.t.d.fact 57 rfl)
  m_Work_may_take := He.meth_ok (c.t.d.fact 58 rfl)
  m_Work_move := He.meth_ok (c.t.d.fact 59 rfl)
  m_Work_fetch := He.meth_ok (c.t.d.fact 60 rfl)
  m_Work_lay := He.meth_ok (c.t.d.fact 61 rfl)
  g_Device := He.glo_ok X G (c.t.d.fact 62 rfl)
  cl_Device := He.cls_ok (c.t.d.fact 63 rfl)
  mk_Device := He.mkr_ok (c.t.d.fact 64 rfl)
  n_Device_works := He.noat_ok (c.t.d.fact 65 rfl)
  n_Device_took := He.noat_ok (c.t.d.fact 66 rfl)
  n_Device_begun := He.noat_ok (c.t.d.fact 67 rfl)
  m_Device_is_on := He.meth_ok (c.t.d.fact 68 rfl)
  m_Device_wake := He.meth_ok (c.t.d.fact 69 rfl)
  m_Device_start := He.meth_ok (c.t.d.fact 70 rfl)
  m_Device_move := He.meth_ok (c.t.d.fact 71 rfl)
  m_Device_taker := He.meth_ok (c.t.d.fact 72 rfl)
  m_Device_numbers_on := He.meth_ok (c.t.d.fact 73 rfl)
  m_Device_shown_on := He.meth_ok (c.t.d.fact 74 rfl)
  g_Machine := He.glo_ok X G (c.t.d.fact 75 rfl)
  cl_Machine := He.cls_ok (c.t.d.fact 76 rfl)
  mk_Machine := He.mkr_ok (c.t.d.fact 77 rfl)
  n_Machine_program := He.noat_ok (c.t.d.fact 78 rfl)
  n_Machine_cells := He.noat_ok (c.t.d.fact 79 rfl)
  n_Machine_marks := He.noat_ok (c.t.d.fact 80 rfl)
  n_Machine_row := He.noat_ok (c.t.d.fact 81 rfl)
  n_Machine_spent := He.noat_ok (c.t.d.fact 82 rfl)
  m_Machine_ended := He.meth_ok (c.t.d.fact 83 rfl)
  m_Machine_wanted := He.meth_ok (c.t.d.fact 84 rfl)
  m_Machine_step := He.meth_ok (c.t.d.fact 85 rfl)
  m_Machine_use_word := He.meth_ok (c.t.d.fact 86 rfl)
  m_Machine_finish := He.meth_ok (c.t.d.fact 87 rfl)
  m_Machine_reckoned := He.meth_ok (c.t.d.fact 88 rfl)
  g_Floor := He.glo_ok X G (c.t.d.fact 89 rfl)
  cl_Floor := He.cls_ok (c.t.d.fact 90 rfl)
  mk_Floor := He.mkr_ok (c.t.d.fact 91 rfl)
  n_Floor_machine := He.noat_ok (c.t.d.fact 92 rfl)
  n_Floor_device := He.noat_ok (c.t.d.fact 93 rfl)
  n_Floor_words := He.noat_ok (c.t.d.fact 94 rfl)
  n_Floor_asks := He.noat_ok (c.t.d.fact 95 rfl)
  n_Floor_beats := He.noat_ok (c.t.d.fact 96 rfl)
  m_Floor_pass_beat := He.meth_ok (c.t.d.fact 97 rfl)
  m_Floor_seen := He.meth_ok (c.t.d.fact 98 rfl)
  g_Watch := He.glo_ok X G (c.t.d.fact 99 rfl)
  cl_Watch := He.cls_ok (c.t.d.fact 100 rfl)
  mk_Watch := He.mkr_ok (c.t.d.fact 101 rfl)
  n_Watch_floor := He.noat_ok (c.t.d.fact 102 rfl)
  n_Watch_dones := He.noat_ok (c.t.d.fact 103 rfl)
  n_Watch_on_behind := He.noat_ok (c.t.d.fact 104 rfl)
  n_Watch_pairs := He.noat_ok (c.t.d.fact 105 rfl)
  n_Watch_first_get := He.noat_ok (c.t.d.fact 106 rfl)
  n_Watch_goings := He.noat_ok (c.t.d.fact 107 rfl)
  m_Watch_run := He.meth_ok (c.t.d.fact 108 rfl)
  m_Watch_run_till := He.meth_ok (c.t.d.fact 109 rfl)
  m_Watch_step := He.meth_ok (c.t.d.fact 110 rfl)
  m_Watch_note_get := He.meth_ok (c.t.d.fact 111 rfl)
  u_abs := He.free_ok X G (c.t.d.fact 112 rfl)
  u_bool := He.free_ok X G (c.t.d.fact 113 rfl)
  u_enumerate := He.free_ok X G (c.t.d.fact 114 rfl)
  u_int := He.free_ok X G (c.t.d.fact 115 rfl)
  u_isinstance := He.free_ok X G (c.t.d.fact 116 rfl)
  u_len := He.free_ok X G (c.t.d.fact 117 rfl)
  u_list := He.free_ok X G (c.t.d.fact 118 rfl)
  u_max := He.free_ok X G (c.t.d.fact 119 rfl)
  u_range := He.free_ok X G (c.t.d.fact 120 rfl)
  u_str := He.free_ok X G (c.t.d.fact 121 rfl)
  u_tuple := He.free_ok X G (c.t.d.fact 122 rfl)
  u_zip := He.free_ok X G (c.t.d.fact 123 rfl)
  i_FEWEST_WORDS := He.int_ok X G (c.t.d.fact 124 rfl)
  i_MOST_WORDS := He.int_ok X G (c.t.d.fact 125 rfl)
  i_MOST_ROWS := He.int_ok X G (c.t.d.fact 126 rfl)
  i_MOST_WORKS := He.int_ok X G (c.t.d.fact 127 rfl)
  i_MOST_BEATS := He.int_ok X G (c.t.d.fact 128 rfl)
  i_WIDEST_WINDOW := He.int_ok X G (c.t.d.fact 129 rfl)
  i_CELLS := He.int_ok X G (c.t.d.fact 130 rfl)
  i_MARKS := He.int_ok X G (c.t.d.fact 131 rfl)
  i_WORTHS := He.int_ok X G (c.t.d.fact 132 rfl)
  i_MOST_RESTS := He.int_ok X G (c.t.d.fact 133 rfl)
  g_GREEDS := He.glo_ok X G (c.t.d.fact 134 rfl)
  g_FORMS := He.glo_ok X G (c.t.d.fact 135 rfl)
  g_BOUNDS := He.glo_ok X G (c.t.d.fact 136 rfl)
  f_is_number := c.t.d.def_ 0 (d := d_is_number) rfl
  f_is_part := c.t.d.def_ 1 (d := d_is_part) rfl
  f_is_one_of := c.t.d.def_ 2 (d := d_is_one_of) rfl
  f_is_row := c.t.d.def_ 3 (d := d_is_row) rfl
  f_is_work := c.t.d.def_ 4 (d := d_is_work) rfl
  f_is_window := c.t.d.def_ 5 (d := d_is_window) rfl
  f_is_pair := c.t.d.def_ 6 (d := d_is_pair) rfl
  f_is_claim := c.t.d.def_ 7 (d := d_is_claim) rfl
  f_check_program := c.t.d.def_ 8 (d := d_check_program) rfl
  f_check_works := c.t.d.def_ 9 (d := d_check_works) rfl
  f_check_memory := c.t.d.def_ 10 (d := d_check_memory) rfl
  f_check_window := c.t.d.def_ 11 (d := d_check_window) rfl
  f_check_windowed := c.t.d.def_ 12 (d := d_check_windowed) rfl
  f_check_claim := c.t.d.def_ 13 (d := d_check_claim) rfl
  f_check_pair := c.t.d.def_ 14 (d := d_check_pair) rfl
  f_check_straight := c.t.d.def_ 15 (d := d_check_straight) rfl
  f_Going_init := c.t.d.def_ 16 (d := d_Going_init) rfl
  f_Work_init := c.t.d.def_ 17 (d := d_Work_init) rfl
  f_Work_held_off := c.t.d.def_ 18 (d := d_Work_held_off) rfl
  f_Work_may_take := c.t.d.def_ 19 (d := d_Work_may_take) rfl
  f_Work_move := c.t.d.def_ 20 (d := d_Work_move) rfl
  f_Work_fetch := c.t.d.def_ 21 (d := d_Work_fetch) rfl
  f_Work_lay := c.t.d.def_ 22 (d := d_Work_lay) rfl
  f_Device_init := c.t.d.def_ 23 (d := d_Device_init) rfl
  f_Device_is_on := c.t.d.def_ 24 (d := d_Device_is_on) rfl
  f_Device_wake := c.t.d.def_ 25 (d := d_Device_wake) rfl
  f_Device_start := c.t.d.def_ 26 (d := d_Device_start) rfl
  f_Device_move := c.t.d.def_ 27 (d := d_Device_move) rfl
  f_Device_taker := c.t.d.def_ 28 (d := d_Device_taker) rfl
  f_Device_numbers_on := c.t.d.def_ 29 (d := d_Device_numbers_on) rfl
  f_Device_shown_on := c.t.d.def_ 30 (d := d_Device_shown_on) rfl
  f_beats_of := c.t.d.def_ 31 (d := d_beats_of) rfl
  f_word_of := c.t.d.def_ 32 (d := d_word_of) rfl
  f_Machine_init := c.t.d.def_ 33 (d := d_Machine_init) rfl
  f_Machine_ended := c.t.d.def_ 34 (d := d_Machine_ended) rfl
  f_Machine_wanted := c.t.d.def_ 35 (d := d_Machine_wanted) rfl
  f_Machine_step := c.t.d.def_ 36 (d := d_Machine_step) rfl
  f_Machine_use_word := c.t.d.def_ 37 (d := d_Machine_use_word) rfl
  f_Machine_finish := c.t.d.def_ 38 (d := d_Machine_finish) rfl
  f_Machine_reckoned := c.t.d.def_ 39 (d := d_Machine_reckoned) rfl
  f_Floor_init := c.t.d.def_ 40 (d := d_Floor_init) rfl
  f_Floor_pass_beat := c.t.d.def_ 41 (d := d_Floor_pass_beat) rfl
  f_Floor_seen := c.t.d.def_ 42 (d := d_Floor_seen) rfl
  f_Watch_init := c.t.d.def_ 43 (d := d_Watch_init) rfl
  f_Watch_run := c.t.d.def_ 44 (d := d_Watch_run) rfl
  f_Watch_run_till := c.t.d.def_ 45 (d := d_Watch_run_till) rfl
  f_Watch_step := c.t.d.def_ 46 (d := d_Watch_step) rfl
  f_Watch_note_get := c.t.d.def_ 47 (d := d_Watch_note_get) rfl
  f_lays_at := c.t.d.def_ 48 (d := d_lays_at) rfl
  f_laid_ahead := c.t.d.def_ 49 (d := d_laid_ahead) rfl
  f_is_torn := c.t.d.def_ 50 (d := d_is_torn) rfl
  f_tears := c.t.d.def_ 51 (d := d_tears) rfl
  f_is_whole := c.t.d.def_ 52 (d := d_is_whole) rfl
  f_tears_within := c.t.d.def_ 53 (d := d_tears_within) rfl
  f_first_torn := c.t.d.def_ 54 (d := d_first_torn) rfl
  f_is_always_whole := c.t.d.def_ 55 (d := d_is_always_whole) rfl
  f_fewest := c.t.d.def_ 56 (d := d_fewest) rfl
  f_rests := c.t.d.def_ 57 (d := d_rests) rfl
  f_is_over := c.t.d.def_ 58 (d := d_is_over) rfl
  f_is_kept := c.t.d.def_ 59 (d := d_is_kept) rfl
  f_holds := c.t.d.def_ 60 (d := d_holds) rfl
  f_leans := c.t.d.def_ 61 (d := d_leans) rfl
  f_l_dice := c.t.d.def_ 62 (d := d_l_dice) rfl
  f_l_off := c.t.d.def_ 63 (d := d_l_off) rfl
  f_l_words := c.t.d.def_ 64 (d := d_l_words) rfl
  f_l_work := c.t.d.def_ 65 (d := d_l_work) rfl
  f_l_row := c.t.d.def_ 66 (d := d_l_row) rfl
  f_l_near := c.t.d.def_ 67 (d := d_l_near) rfl
  f_l_rest_rows := c.t.d.def_ 68 (d := d_l_rest_rows) rfl
  f_law := c.t.d.def_ 69 (d := d_law) rfl
  d_FORMS := c.t.tab 0 (t := tab_FORMS) rfl
  d_BOUNDS := c.t.tab 1 (t := tab_BOUNDS) rfl
  tt_GREEDS := fun H => He.tupB_ok (exB_ok c.more 0 rfl) H
  e_FORMS_set := entB_ok (exB_ok c.more 1 rfl)
  e_FORMS_add := entB_ok (exB_ok c.more 2 rfl)
  e_FORMS_less := entB_ok (exB_ok c.more 3 rfl)
  e_FORMS_get := entB_ok (exB_ok c.more 4 rfl)
  e_FORMS_put := entB_ok (exB_ok c.more 5 rfl)
  e_FORMS_getx := entB_ok (exB_ok c.more 6 rfl)
  e_FORMS_putx := entB_ok (exB_ok c.more 7 rfl)
  e_FORMS_pair := entB_ok (exB_ok c.more 8 rfl)
  e_FORMS_lay := entB_ok (exB_ok c.more 9 rfl)
  e_FORMS_go := entB_ok (exB_ok c.more 10 rfl)
  e_FORMS_if := entB_ok (exB_ok c.more 11 rfl)
  e_FORMS_ask := entB_ok (exB_ok c.more 12 rfl)
  e_FORMS_done := entB_ok (exB_ok c.more 13 rfl)
  e_FORMS_mark := entB_ok (exB_ok c.more 14 rfl)
  e_FORMS_clear := entB_ok (exB_ok c.more 15 rfl)
  e_FORMS_rest := entB_ok (exB_ok c.more 16 rfl)
  e_FORMS_end := entB_ok (exB_ok c.more 17 rfl)
  e_BOUNDS_cell := entB_ok (exB_ok c.more 18 rfl)
  e_BOUNDS_first := entB_ok (exB_ok c.more 19 rfl)
  e_BOUNDS_word := entB_ok (exB_ok c.more 20 rfl)
  e_BOUNDS_address := entB_ok (exB_ok c.more 21 rfl)
  e_BOUNDS_work := entB_ok (exB_ok c.more 22 rfl)
  e_BOUNDS_mark := entB_ok (exB_ok c.more 23 rfl)
  e_BOUNDS_rest := entB_ok (exB_ok c.more 24 rfl)
  e_BOUNDS_many := entB_ok (exB_ok c.more 25 rfl)
  e_BOUNDS_block := entB_ok (exB_ok c.more 26 rfl)
  e_BOUNDS_ask := entB_ok (exB_ok c.more 27 rfl)
  k_is_number := (let ⟨_, F⟩ := c.t.d.def_ 0 (d := d_is_number) rfl; F.kp)
  k_is_part := (let ⟨_, F⟩ := c.t.d.def_ 1 (d := d_is_part) rfl; F.kp)
  k_is_one_of := (let ⟨_, F⟩ := c.t.d.def_ 2 (d := d_is_one_of) rfl; F.kp)
  k_is_row := (let ⟨_, F⟩ := c.t.d.def_ 3 (d := d_is_row) rfl; F.kp)
  k_is_work := (let ⟨_, F⟩ := c.t.d.def_ 4 (d := d_is_work) rfl; F.kp)
  k_is_window := (let ⟨_, F⟩ := c.t.d.def_ 5 (d := d_is_window) rfl; F.kp)
  k_is_pair := (let ⟨_, F⟩ := c.t.d.def_ 6 (d := d_is_pair) rfl; F.kp)
  k_is_claim := (let ⟨_, F⟩ := c.t.d.def_ 7 (d := d_is_claim) rfl; F.kp)
  k_check_program := (let ⟨_, F⟩ := c.t.d.def_ 8 (d := d_check_program) rfl; F.kp)
  k_check_works := (let ⟨_, F⟩ := c.t.d.def_ 9 (d := d_check_works) rfl; F.kp)
  k_check_memory := (let ⟨_, F⟩ := c.t.d.def_ 10 (d := d_check_memory) rfl; F.kp)
  k_check_window := (let ⟨_, F⟩ := c.t.d.def_ 11 (d := d_check_window) rfl; F.kp)
  k_check_windowed := (let ⟨_, F⟩ := c.t.d.def_ 12 (d := d_check_windowed) rfl; F.kp)
  k_check_claim := (let ⟨_, F⟩ := c.t.d.def_ 13 (d := d_check_claim) rfl; F.kp)
  k_check_pair := (let ⟨_, F⟩ := c.t.d.def_ 14 (d := d_check_pair) rfl; F.kp)
  k_check_straight := (let ⟨_, F⟩ := c.t.d.def_ 15 (d := d_check_straight) rfl; F.kp)
  k_beats_of := (let ⟨_, F⟩ := c.t.d.def_ 31 (d := d_beats_of) rfl; F.kp)
  k_word_of := (let ⟨_, F⟩ := c.t.d.def_ 32 (d := d_word_of) rfl; F.kp)
  k_lays_at := (let ⟨_, F⟩ := c.t.d.def_ 48 (d := d_lays_at) rfl; F.kp)
  k_laid_ahead := (let ⟨_, F⟩ := c.t.d.def_ 49 (d := d_laid_ahead) rfl; F.kp)
  k_is_torn := (let ⟨_, F⟩ := c.t.d.def_ 50 (d := d_is_torn) rfl; F.kp)
  k_tears := (let ⟨_, F⟩ := c.t.d.def_ 51 (d := d_tears) rfl; F.kp)
  k_is_whole := (let ⟨_, F⟩ := c.t.d.def_ 52 (d := d_is_whole) rfl; F.kp)
  k_tears_within := (let ⟨_, F⟩ := c.t.d.def_ 53 (d := d_tears_within) rfl; F.kp)
  k_first_torn := (let ⟨_, F⟩ := c.t.d.def_ 54 (d := d_first_torn) rfl; F.kp)
  k_is_always_whole := (let ⟨_, F⟩ := c.t.d.def_ 55 (d := d_is_always_whole) rfl; F.kp)
  k_fewest := (let ⟨_, F⟩ := c.t.d.def_ 56 (d := d_fewest) rfl; F.kp)
  k_rests := (let ⟨_, F⟩ := c.t.d.def_ 57 (d := d_rests) rfl; F.kp)
  k_is_over := (let ⟨_, F⟩ := c.t.d.def_ 58 (d := d_is_over) rfl; F.kp)
  k_is_kept := (let ⟨_, F⟩ := c.t.d.def_ 59 (d := d_is_kept) rfl; F.kp)
  k_holds := (let ⟨_, F⟩ := c.t.d.def_ 60 (d := d_holds) rfl; F.kp)
  k_leans := (let ⟨_, F⟩ := c.t.d.def_ 61 (d := d_leans) rfl; F.kp)
  k_l_dice := (let ⟨_, F⟩ := c.t.d.def_ 62 (d := d_l_dice) rfl; F.kp)
  k_l_off := (let ⟨_, F⟩ := c.t.d.def_ 63 (d := d_l_off) rfl; F.kp)
  k_l_words := (let ⟨_, F⟩ := c.t.d.def_ 64 (d := d_l_words) rfl; F.kp)
  k_l_work := (let ⟨_, F⟩ := c.t.d.def_ 65 (d := d_l_work) rfl; F.kp)
  k_l_row := (let ⟨_, F⟩ := c.t.d.def_ 66 (d := d_l_row) rfl; F.kp)
  k_l_near := (let ⟨_, F⟩ := c.t.d.def_ 67 (d := d_l_near) rfl; F.kp)
  k_l_rest_rows := (let ⟨_, F⟩ := c.t.d.def_ 68 (d := d_l_rest_rows) rfl; F.kp)
  k_law := (let ⟨_, F⟩ := c.t.d.def_ 69 (d := d_law) rfl; F.kp)
theorem run_false (w : World) : HandSHeadRun.RunEq R (PySem.W.view R.prog [76]) hk ob 6000 loose (w.withFollow "special-get-raises" false) := by
  intro os
  kernel_rfl
theorem run_true (w : World) : HandSHeadRun.RunEq R (PySem.W.view R.prog [76]) hk ob 6000 loose (w.withFollow "special-get-raises" true) := by
  intro os
  kernel_rfl
theorem run (w : World) : HandSHeadRun.RunEq R (PySem.W.view R.prog [76]) hk ob 6000 loose w := PySem.W.byRow2 "special-get-raises" (P := fun w => HandSHeadRun.RunEq R (PySem.W.view R.prog [76]) hk ob 6000 loose w) run_false run_true w
end SB

set_option Elab.async false
set_option linter.all false
set_option maxRecDepth 100000
set_option maxHeartbeats 2000000
namespace SB
open PySem PySem.Spec PyProof.Rows L2
def oV : Option Int → V
  | none => .non
  | some i => .int i
def oA : Option Addr → V
  | none => .non
  | some a => .ref a
structure Wk where
  begin : Int
  goal : Int
  many : Int
  block : Int
  greed : Str
  mark : Option Int
  follow : Option Int
  on : Bool
  laid : Int
  hand : Option Int
structure Wo where
  begin : Int
  goal : Int
  many : Int
  block : Int
  greed : Str
  mark : Option Int
  follow : Option Int
  going : Option Addr
def woF (k : Wo) : List (Str × V) := [("begin", .int k.begin), ("goal", .int k.goal), ("many", .int k.many), ("block", .int k.block), ("greed", .str k.greed), ("mark", oV k.mark), ("follow", oV k.follow), ("going", oA k.going)]
abbrev cWork (K : PySem.W.Frag) : Addr := He.ga K "Work"
theorem wo_begin (k : Wo) : (woF k).lookup ("begin" : Str) = some (V.int k.begin) := by kernel_rfl
theorem wo_put_begin (k : Wo) (x : Int) : putF ("begin" : Str) (V.int x) (woF k) = woF { k with begin := x } := by kernel_rfl
theorem wo_goal (k : Wo) : (woF k).lookup ("goal" : Str) = some (V.int k.goal) := by kernel_rfl
theorem wo_put_goal (k : Wo) (x : Int) : putF ("goal" : Str) (V.int x) (woF k) = woF { k with goal := x } := by kernel_rfl
theorem wo_many (k : Wo) : (woF k).lookup ("many" : Str) = some (V.int k.many) := by kernel_rfl
theorem wo_put_many (k : Wo) (x : Int) : putF ("many" : Str) (V.int x) (woF k) = woF { k with many := x } := by kernel_rfl
theorem wo_block (k : Wo) : (woF k).lookup ("block" : Str) = some (V.int k.block) := by kernel_rfl
theorem wo_put_block (k : Wo) (x : Int) : putF ("block" : Str) (V.int x) (woF k) = woF { k with block := x } := by kernel_rfl
theorem wo_greed (k : Wo) : (woF k).lookup ("greed" : Str) = some (V.str k.greed) := by kernel_rfl
theorem wo_put_greed (k : Wo) (x : Str) : putF ("greed" : Str) (V.str x) (woF k) = woF { k with greed := x } := by kernel_rfl
theorem wo_mark (k : Wo) : (woF k).lookup ("mark" : Str) = some (oV k.mark) := by kernel_rfl
theorem wo_put_mark (k : Wo) (x : Option Int) : putF ("mark" : Str) (oV x) (woF k) = woF { k with mark := x } := by kernel_rfl
theorem wo_follow (k : Wo) : (woF k).lookup ("follow" : Str) = some (oV k.follow) := by kernel_rfl
theorem wo_put_follow (k : Wo) (x : Option Int) : putF ("follow" : Str) (oV x) (woF k) = woF { k with follow := x } := by kernel_rfl
theorem wo_going (k : Wo) : (woF k).lookup ("going" : Str) = some (oA k.going) := by kernel_rfl
theorem wo_put_going (k : Wo) (x : Option Addr) : putF ("going" : Str) (oA x) (woF k) = woF { k with going := x } := by kernel_rfl
theorem wo_no_held_off (k : Wo) : (woF k).lookup ("held_off" : Str) = none := by kernel_rfl
theorem wo_no_may_take (k : Wo) : (woF k).lookup ("may_take" : Str) = none := by kernel_rfl
theorem wo_no_move (k : Wo) : (woF k).lookup ("move" : Str) = none := by kernel_rfl
theorem wo_no_fetch (k : Wo) : (woF k).lookup ("fetch" : Str) = none := by kernel_rfl
theorem wo_no_lay (k : Wo) : (woF k).lookup ("lay" : Str) = none := by kernel_rfl
theorem wo_len (k : Wo) : (woF k).length < 1000 := by show 8 < 1000; decide
theorem wo_put_goingN (k : Wo) : putF ("going" : Str) V.non (woF k) = woF { k with going := none } := by kernel_rfl
theorem wo_put_goingS (k : Wo) (x : Addr) : putF ("going" : Str) (V.ref x) (woF k) = woF { k with going := some x } := by kernel_rfl
theorem wo_made (begin : Int) (goal : Int) (many : Int) (block : Int) (greed : Str) (mark : Option Int) (follow : Option Int) (going : Option Addr) : putF ("going" : Str) (oA going) (putF ("follow" : Str) (oV follow) (putF ("mark" : Str) (oV mark) (putF ("greed" : Str) (V.str greed) (putF ("block" : Str) (V.int block) (putF ("many" : Str) (V.int many) (putF ("goal" : Str) (V.int goal) (putF ("begin" : Str) (V.int begin) (([] : List (Str × V)))))))))) = woF ⟨begin, goal, many, block, greed, mark, follow, going⟩ := by kernel_rfl
structure Gg where
  number : Int
  hand : Option Int
  puts : Addr
def ggF (k : Gg) : List (Str × V) := [("number", .int k.number), ("hand", oV k.hand), ("puts", .ref k.puts)]
abbrev cGoing (K : PySem.W.Frag) : Addr := He.ga K "Going"
theorem gg_number (k : Gg) : (ggF k).lookup ("number" : Str) = some (V.int k.number) := by kernel_rfl
theorem gg_put_number (k : Gg) (x : Int) : putF ("number" : Str) (V.int x) (ggF k) = ggF { k with number := x } := by kernel_rfl
theorem gg_hand (k : Gg) : (ggF k).lookup ("hand" : Str) = some (oV k.hand) := by kernel_rfl
theorem gg_put_hand (k : Gg) (x : Option Int) : putF ("hand" : Str) (oV x) (ggF k) = ggF { k with hand := x } := by kernel_rfl
theorem gg_puts (k : Gg) : (ggF k).lookup ("puts" : Str) = some (V.ref k.puts) := by kernel_rfl
theorem gg_put_puts (k : Gg) (x : Addr) : putF ("puts" : Str) (V.ref x) (ggF k) = ggF { k with puts := x } := by kernel_rfl
theorem gg_len (k : Gg) : (ggF k).length < 1000 := by show 3 < 1000; decide
theorem gg_put_handN (k : Gg) : putF ("hand" : Str) V.non (ggF k) = ggF { k with hand := none } := by kernel_rfl
theorem gg_put_handS (k : Gg) (x : Int) : putF ("hand" : Str) (V.int x) (ggF k) = ggF { k with hand := some x } := by kernel_rfl
theorem gg_made (number : Int) (hand : Option Int) (puts : Addr) : putF ("puts" : Str) (V.ref puts) (putF ("hand" : Str) (oV hand) (putF ("number" : Str) (V.int number) (([] : List (Str × V))))) = ggF ⟨number, hand, puts⟩ := by kernel_rfl
structure Dv where
  works : Addr
  took : Bool
  begun : Addr
def dvF (k : Dv) : List (Str × V) := [("works", .ref k.works), ("took", .bl k.took), ("begun", .ref k.begun)]
abbrev cDevice (K : PySem.W.Frag) : Addr := He.ga K "Device"
theorem dv_works (k : Dv) : (dvF k).lookup ("works" : Str) = some (V.ref k.works) := by kernel_rfl
theorem dv_put_works (k : Dv) (x : Addr) : putF ("works" : Str) (V.ref x) (dvF k) = dvF { k with works := x } := by kernel_rfl
theorem dv_took (k : Dv) : (dvF k).lookup ("took" : Str) = some (V.bl k.took) := by kernel_rfl
theorem dv_put_took (k : Dv) (x : Bool) : putF ("took" : Str) (V.bl x) (dvF k) = dvF { k with took := x } := by kernel_rfl
theorem dv_begun (k : Dv) : (dvF k).lookup ("begun" : Str) = some (V.ref k.begun) := by kernel_rfl
theorem dv_put_begun (k : Dv) (x : Addr) : putF ("begun" : Str) (V.ref x) (dvF k) = dvF { k with begun := x } := by kernel_rfl
theorem dv_no_is_on (k : Dv) : (dvF k).lookup ("is_on" : Str) = none := by kernel_rfl
theorem dv_no_wake (k : Dv) : (dvF k).lookup ("wake" : Str) = none := by kernel_rfl
theorem dv_no_start (k : Dv) : (dvF k).lookup ("start" : Str) = none := by kernel_rfl
theorem dv_no_move (k : Dv) : (dvF k).lookup ("move" : Str) = none := by kernel_rfl
theorem dv_no_taker (k : Dv) : (dvF k).lookup ("taker" : Str) = none := by kernel_rfl
theorem dv_no_numbers_on (k : Dv) : (dvF k).lookup ("numbers_on" : Str) = none := by kernel_rfl
theorem dv_no_shown_on (k : Dv) : (dvF k).lookup ("shown_on" : Str) = none := by kernel_rfl
theorem dv_len (k : Dv) : (dvF k).length < 1000 := by show 3 < 1000; decide
theorem dv_made (works : Addr) (took : Bool) (begun : Addr) : putF ("begun" : Str) (V.ref begun) (putF ("took" : Str) (V.bl took) (putF ("works" : Str) (V.ref works) (([] : List (Str × V))))) = dvF ⟨works, took, begun⟩ := by kernel_rfl
structure Mc where
  program : Addr
  cells : Addr
  marks : Addr
  row : Int
  spent : Int
def mcF (k : Mc) : List (Str × V) := [("program", .ref k.program), ("cells", .ref k.cells), ("marks", .ref k.marks), ("row", .int k.row), ("spent", .int k.spent)]
abbrev cMachine (K : PySem.W.Frag) : Addr := He.ga K "Machine"
theorem mc_program (k : Mc) : (mcF k).lookup ("program" : Str) = some (V.ref k.program) := by kernel_rfl
theorem mc_put_program (k : Mc) (x : Addr) : putF ("program" : Str) (V.ref x) (mcF k) = mcF { k with program := x } := by kernel_rfl
theorem mc_cells (k : Mc) : (mcF k).lookup ("cells" : Str) = some (V.ref k.cells) := by kernel_rfl
theorem mc_put_cells (k : Mc) (x : Addr) : putF ("cells" : Str) (V.ref x) (mcF k) = mcF { k with cells := x } := by kernel_rfl
theorem mc_marks (k : Mc) : (mcF k).lookup ("marks" : Str) = some (V.ref k.marks) := by kernel_rfl
theorem mc_put_marks (k : Mc) (x : Addr) : putF ("marks" : Str) (V.ref x) (mcF k) = mcF { k with marks := x } := by kernel_rfl
theorem mc_row (k : Mc) : (mcF k).lookup ("row" : Str) = some (V.int k.row) := by kernel_rfl
theorem mc_put_row (k : Mc) (x : Int) : putF ("row" : Str) (V.int x) (mcF k) = mcF { k with row := x } := by kernel_rfl
theorem mc_spent (k : Mc) : (mcF k).lookup ("spent" : Str) = some (V.int k.spent) := by kernel_rfl
theorem mc_put_spent (k : Mc) (x : Int) : putF ("spent" : Str) (V.int x) (mcF k) = mcF { k with spent := x } := by kernel_rfl
theorem mc_no_ended (k : Mc) : (mcF k).lookup ("ended" : Str) = none := by kernel_rfl
theorem mc_no_wanted (k : Mc) : (mcF k).lookup ("wanted" : Str) = none := by kernel_rfl
theorem mc_no_step (k : Mc) : (mcF k).lookup ("step" : Str) = none := by kernel_rfl
theorem mc_no_use_word (k : Mc) : (mcF k).lookup ("use_word" : Str) = none := by kernel_rfl
theorem mc_no_finish (k : Mc) : (mcF k).lookup ("finish" : Str) = none := by kernel_rfl
theorem mc_no_reckoned (k : Mc) : (mcF k).lookup ("reckoned" : Str) = none := by kernel_rfl
theorem mc_len (k : Mc) : (mcF k).length < 1000 := by show 5 < 1000; decide
theorem mc_made (program : Addr) (cells : Addr) (marks : Addr) (row : Int) (spent : Int) : putF ("spent" : Str) (V.int spent) (putF ("row" : Str) (V.int row) (putF ("marks" : Str) (V.ref marks) (putF ("cells" : Str) (V.ref cells) (putF ("program" : Str) (V.ref program) (([] : List (Str × V))))))) = mcF ⟨program, cells, marks, row, spent⟩ := by kernel_rfl
structure Fl where
  machine : Addr
  device : Addr
  words : Addr
  asks : Addr
  beats : Int
def flF (k : Fl) : List (Str × V) := [("machine", .ref k.machine), ("device", .ref k.device), ("words", .ref k.words), ("asks", .ref k.asks), ("beats", .int k.beats)]
abbrev cFloor (K : PySem.W.Frag) : Addr := He.ga K "Floor"
theorem fl_machine (k : Fl) : (flF k).lookup ("machine" : Str) = some (V.ref k.machine) := by kernel_rfl
theorem fl_put_machine (k : Fl) (x : Addr) : putF ("machine" : Str) (V.ref x) (flF k) = flF { k with machine := x } := by kernel_rfl
theorem fl_device (k : Fl) : (flF k).lookup ("device" : Str) = some (V.ref k.device) := by kernel_rfl
theorem fl_put_device (k : Fl) (x : Addr) : putF ("device" : Str) (V.ref x) (flF k) = flF { k with device := x } := by kernel_rfl
theorem fl_words (k : Fl) : (flF k).lookup ("words" : Str) = some (V.ref k.words) := by kernel_rfl
theorem fl_put_words (k : Fl) (x : Addr) : putF ("words" : Str) (V.ref x) (flF k) = flF { k with words := x } := by kernel_rfl
theorem fl_asks (k : Fl) : (flF k).lookup ("asks" : Str) = some (V.ref k.asks) := by kernel_rfl
theorem fl_put_asks (k : Fl) (x : Addr) : putF ("asks" : Str) (V.ref x) (flF k) = flF { k with asks := x } := by kernel_rfl
theorem fl_beats (k : Fl) : (flF k).lookup ("beats" : Str) = some (V.int k.beats) := by kernel_rfl
theorem fl_put_beats (k : Fl) (x : Int) : putF ("beats" : Str) (V.int x) (flF k) = flF { k with beats := x } := by kernel_rfl
theorem fl_no_pass_beat (k : Fl) : (flF k).lookup ("pass_beat" : Str) = none := by kernel_rfl
theorem fl_no_seen (k : Fl) : (flF k).lookup ("seen" : Str) = none := by kernel_rfl
theorem fl_len (k : Fl) : (flF k).length < 1000 := by show 5 < 1000; decide
theorem fl_made (machine : Addr) (device : Addr) (words : Addr) (asks : Addr) (beats : Int) : putF ("beats" : Str) (V.int beats) (putF ("asks" : Str) (V.ref asks) (putF ("words" : Str) (V.ref words) (putF ("device" : Str) (V.ref device) (putF ("machine" : Str) (V.ref machine) (([] : List (Str × V))))))) = flF ⟨machine, device, words, asks, beats⟩ := by kernel_rfl
structure Hl where
  floor : Addr
def hlF (k : Hl) : List (Str × V) := [("floor", .ref k.floor)]
abbrev cHall (K : PySem.W.Frag) : Addr := He.ga K "Hall"
theorem hl_floor (k : Hl) : (hlF k).lookup ("floor" : Str) = some (V.ref k.floor) := by kernel_rfl
theorem hl_put_floor (k : Hl) (x : Addr) : putF ("floor" : Str) (V.ref x) (hlF k) = hlF { k with floor := x } := by kernel_rfl
theorem hl_no_beat (k : Hl) : (hlF k).lookup ("beat" : Str) = none := by kernel_rfl
theorem hl_no_shown (k : Hl) : (hlF k).lookup ("shown" : Str) = none := by kernel_rfl
theorem hl_len (k : Hl) : (hlF k).length < 1000 := by show 1 < 1000; decide
theorem hl_made (floor : Addr) : putF ("floor" : Str) (V.ref floor) (([] : List (Str × V))) = hlF ⟨floor⟩ := by kernel_rfl
structure Wa where
  floor : Addr
  dones : Addr
  on_behind : Addr
  pairs : Addr
  first_get : Option Addr
  goings : Addr
def waF (k : Wa) : List (Str × V) := [("floor", .ref k.floor), ("dones", .ref k.dones), ("on_behind", .ref k.on_behind), ("pairs", .ref k.pairs), ("first_get", oA k.first_get), ("goings", .ref k.goings)]
abbrev cWatch (K : PySem.W.Frag) : Addr := He.ga K "Watch"
theorem wa_floor (k : Wa) : (waF k).lookup ("floor" : Str) = some (V.ref k.floor) := by kernel_rfl
theorem wa_put_floor (k : Wa) (x : Addr) : putF ("floor" : Str) (V.ref x) (waF k) = waF { k with floor := x } := by kernel_rfl
theorem wa_dones (k : Wa) : (waF k).lookup ("dones" : Str) = some (V.ref k.dones) := by kernel_rfl
theorem wa_put_dones (k : Wa) (x : Addr) : putF ("dones" : Str) (V.ref x) (waF k) = waF { k with dones := x } := by kernel_rfl
theorem wa_on_behind (k : Wa) : (waF k).lookup ("on_behind" : Str) = some (V.ref k.on_behind) := by kernel_rfl
theorem wa_put_on_behind (k : Wa) (x : Addr) : putF ("on_behind" : Str) (V.ref x) (waF k) = waF { k with on_behind := x } := by kernel_rfl
theorem wa_pairs (k : Wa) : (waF k).lookup ("pairs" : Str) = some (V.ref k.pairs) := by kernel_rfl
theorem wa_put_pairs (k : Wa) (x : Addr) : putF ("pairs" : Str) (V.ref x) (waF k) = waF { k with pairs := x } := by kernel_rfl
theorem wa_first_get (k : Wa) : (waF k).lookup ("first_get" : Str) = some (oA k.first_get) := by kernel_rfl
theorem wa_put_first_get (k : Wa) (x : Option Addr) : putF ("first_get" : Str) (oA x) (waF k) = waF { k with first_get := x } := by kernel_rfl
theorem wa_goings (k : Wa) : (waF k).lookup ("goings" : Str) = some (V.ref k.goings) := by kernel_rfl
theorem wa_put_goings (k : Wa) (x : Addr) : putF ("goings" : Str) (V.ref x) (waF k) = waF { k with goings := x } := by kernel_rfl
theorem wa_no_run (k : Wa) : (waF k).lookup ("run" : Str) = none := by kernel_rfl
theorem wa_no_run_till (k : Wa) : (waF k).lookup ("run_till" : Str) = none := by kernel_rfl
theorem wa_no_step (k : Wa) : (waF k).lookup ("step" : Str) = none := by kernel_rfl
theorem wa_no_note_get (k : Wa) : (waF k).lookup ("note_get" : Str) = none := by kernel_rfl
theorem wa_len (k : Wa) : (waF k).length < 1000 := by show 6 < 1000; decide
theorem wa_put_first_getS (k : Wa) (x : Addr) : putF ("first_get" : Str) (V.ref x) (waF k) = waF { k with first_get := some x } := by kernel_rfl
theorem wa_made (floor : Addr) (dones : Addr) (on_behind : Addr) (pairs : Addr) (first_get : Option Addr) (goings : Addr) : putF ("goings" : Str) (V.ref goings) (putF ("first_get" : Str) (oA first_get) (putF ("pairs" : Str) (V.ref pairs) (putF ("on_behind" : Str) (V.ref on_behind) (putF ("dones" : Str) (V.ref dones) (putF ("floor" : Str) (V.ref floor) (([] : List (Str × V)))))))) = waF ⟨floor, dones, on_behind, pairs, first_get, goings⟩ := by kernel_rfl
end SB

set_option Elab.async false
set_option linter.all false
set_option maxRecDepth 100000
set_option maxHeartbeats 2000000
namespace SB
open PySem L2
section
variable {K : PySem.W.Frag} {σ : St} {H H1 : Hp} {Q : VK} {a C dx : Addr} {fs : List (Str × V)} {f : Str} {v y : V} {i : Nat} {ta tv : TE} {D : Ends}
theorem sf (h2 : H a = some (.ins C dx fs)) (h3 : Cls K C) (h4 : NoAttr K C f) (h5 : fs.lookup f = some v) (q : Q v H) (h1 : σ[i]? = some (some (.ref a)) := by rfl) : tFld K (tVar i) f σ H Q := ⟨_, h1, a, C, dx, fs, v, rfl, h2, h3, h4, h5, q⟩
theorem ff (h2 : H a = some (.ins C dx fs)) (h3 : Cls K C) (h4 : NoAttr K C f) (h5 : fs.lookup f = some v) (q : Q v H) :
    ∃ a' C' dx' fs' v', V.ref a = .ref a' ∧ H a' = some (.ins C' dx' fs') ∧ Cls K C' ∧ NoAttr K C' f ∧ fs'.lookup f = some v' ∧ Q v' H := ⟨a, C, dx, fs, v, rfl, h2, h3, h4, h5, q⟩
theorem stf (h2 : H a = some (.ins C dx fs)) (h3 : Cls K C) (h4 : NoAttr K C f) (h5 : fs.length < 1000) {fs' : List (Str × V)} (e : putF f y fs = fs') (q : D.nx σ (upd H a (.ins C dx fs'))) (h1 : σ[i]? = some (some (.ref a)) := by rfl) :
    tVar i σ H fun x H2 => ∃ a C dx fs, x = .ref a ∧ H2 a = some (.ins C dx fs) ∧ Cls K C ∧ NoAttr K C f ∧ fs.length < 1000 ∧ D.nx σ (upd H2 a (.ins C dx (putF f y fs))) := ⟨_, h1, a, C, dx, fs, rfl, h2, h3, h4, h5, by rw [e]; exact q⟩
theorem augf {z n : Int} (h2 : H a = some (.ins C dx fs)) (h3 : Cls K C) (h4 : NoAttr K C f) (h5 : fs.lookup f = some (.int z)) (h6 : fs.length < 1000) {fs' : List (Str × V)} (e : putF f (.int (z + n)) fs = fs')
    (q : D.nx σ (upd H a (.ins C dx fs'))) (h1 : σ[i]? = some (some (.ref a)) := by rfl) : sFldAug K (tVar i) (tC (.int n)) rAdd f D σ H := ⟨_, h1, a, C, dx, fs, _, rfl, h2, h3, h4, h5, _, _, rfl, rfl, dx, fs, h2, h6, by rw [e]; exact q⟩
end
theorem yes {σ : L2.St} {H : Hp} {A B : Hp → Prop} (h : A H) : tYes σ H fun b H3 => if b = true then A H3 else B H3 := by
  show if true = true then A H else B H
  rw [if_pos rfl]
  exact h
theorem lt1000 {n : Nat} (h : Nat.blt n 1000 = true) : n < 1000 := Nat.le_of_ble_eq_true h
theorem at_int {ws : List Int} {z : Int} (h0 : 0 ≤ z) (h1 : z < ws.length) : atI (ws.map V.int) z = some (.int (ws.getD z.toNat 0)) := by
  unfold atI ixN
  rw [if_pos h0, List.length_map, if_pos h1]
  have : z.toNat < ws.length := by omega
  simp [List.getD, List.getElem?_eq_getElem this]
theorem ix_ok {n : Nat} {z : Int} (h0 : 0 ≤ z) (h1 : z < n) : ixN n z = some z.toNat := by
  unfold ixN
  rw [if_pos h0, if_pos h1]
theorem set_int {ws : List Int} {j : Nat} {x : Int} : (ws.map V.int).set j (.int x) = (ws.set j x).map V.int := by rw [List.map_set]
def Kept (as : List Addr) (H H' : Hp) : Prop := ∀ b o, H b = some o → b ∉ as → H' b = some o
theorem Kept.refl (as : List Addr) (H : Hp) : Kept as H H := fun _ _ h _ => h
theorem Kept.trans {as : List Addr} {H H1 H2 : Hp} (a : Kept as H H1) (b : Kept as H1 H2) : Kept as H H2 := fun c o h n => b c o (a c o h n) n
theorem Kept.mono {as bs : List Addr} {H H1 : Hp} (a : Kept as H H1) (h : ∀ x ∈ as, x ∈ bs) : Kept bs H H1 := fun c o e n => a c o e fun m => n (h c m)
theorem Kept.put {as : List Addr} {H H1 : Hp} {p : Addr} {o : HO} (a : Kept as H H1) (h : p ∈ as) : Kept as H (L2.upd H1 p o) := fun c u e n => by
  have hc : c ≠ p := fun z => n (by rw [z]; exact h)
  rw [upd_ne hc]
  exact a c u e n
theorem Kept.new {as : List Addr} {H H1 : Hp} {p : Addr} {o : HO} (a : Kept as H H1) (h : H p = none) : Kept as H (L2.upd H1 p o) := fun c u e n => by rw [upd_ne (ne_of_none e h)]; exact a c u e n
theorem Kept.same {as : List Addr} {H H1 : Hp} (s : Same H H1) : Kept as H H1 := fun c u e _ => s c u e
theorem Kept.toSame {H H1 : Hp} (a : Kept [] H H1) : Same H H1 := fun c u e => a c u e (by simp)
theorem Same.new {H H1 : Hp} {p : Addr} {o : HO} (a : Same H H1) (h : H p = none) : Same H (L2.upd H1 p o) := fun c u e => by rw [upd_ne (ne_of_none e h)]; exact a c u e
theorem Kept.free {as : List Addr} {H H' : Hp} (e : Kept as H H') {p : Addr} (h : H' p = none) (n : p ∉ as) : H p = none := by
  cases q : H p with
  | none => rfl
  | some o => rw [e p o q n] at h; cases h
theorem Same.tup {K : PySem.W.Frag} {H H' : Hp} {a : Addr} {xs : List V} (e : Same H H') (h : SqT K H a xs) : SqT K H' a xs := by
  rcases h with (h | ⟨o, h⟩) | h
  · exact .inl (.inl (e _ _ h))
  · exact .inl (.inr ⟨o, e _ _ h⟩)
  · exact .inr h
end SB

set_option Elab.async false
set_option linter.all false
set_option maxRecDepth 100000
set_option maxHeartbeats 2000000
namespace SB
open PySem L2
def Wk.start (k : Wk) : Wk := if k.on = true then k else { k with on := true, laid := 0 }
def Wk.held (k : Wk) (ms : List Bool) : Bool := match k.mark with
  | none => false
  | some m => if ms.getD m.toNat false = true then (k.hand.isNone && decide (k.laid % k.block = 0)) else false
def mayK (g : Str) (wanted took : Bool) : Bool := if g = "all" then true else if wanted = false then true else if g = "turn" then !took else false
def Wk.may (k : Wk) (wanted took : Bool) : Bool := if k.greed = "all" then true else if wanted = false then true else if k.greed = "turn" then !took else false
def Wk.move (k : Wk) (ws : List Int) : Wk × List Int × (Str × Int × Int) := match k.hand with
  | none => ({ k with hand := some (ws.getD ((k.begin + k.laid) % ws.length).toNat 0) }, ws, ("get", (k.begin + k.laid) % ws.length, ws.getD ((k.begin + k.laid) % ws.length).toNat 0))
  | some x => ({ k with hand := none, laid := k.laid + 1, on := decide (k.laid + 1 < k.many) }, ws.set ((k.goal + k.laid) % ws.length).toNat x, ("put", (k.goal + k.laid) % ws.length, x))
def Wk.wo (k : Wk) (g : Option Addr) : Wo := ⟨k.begin, k.goal, k.many, k.block, k.greed, k.mark, k.follow, g⟩
theorem mod_rg {x : Int} {n : Nat} (h : 0 < n) : 0 ≤ x % (n : Int) ∧ x % (n : Int) < n := ⟨Int.emod_nonneg _ (by omega), Int.emod_lt_of_pos _ (by omega)⟩
section
variable {P : Program} {w : World} {K : PySem.W.Frag} {mg : Str → Option Value} {base : Heap}
def sp_Going_init (K : PySem.W.Frag) : Sp := fun vs H Q _ => ∃ (a dx : Addr) (n : Int), vs = [.ref a, .int n] ∧ H a = some (.ins (cGoing K) dx []) ∧
  ∀ H' p, H p = none → H' p = some (.lst []) → H' a = some (.ins (cGoing K) dx (ggF ⟨n, none, p⟩)) → Kept [a] H H' → Q .non H'
theorem ok_Going_init (T : T w K mg) : FnR P w K mg base CX0 1 (He.ma K (He.ga K "Going") "__init__") (sp_Going_init K) := by
  obtain ⟨fd, F⟩ := T.f_Going_init
  refine F.r sc_Going_init (fun _ _ _ _ _ _ us hl => match us, hl with | [_, _], _ => rfl) (fun vs H Q E h => ?_) (fun cdv A outer s H vs Q E hr h => ?_)
  · obtain ⟨_, _, _, rfl, _⟩ := h
    rfl
  · obtain ⟨a, dx, n, rfl, hself, k⟩ := h
    refine ⟨_, (pss_cons (ps_fld (pv 0) (pv 1) rfl)
      (pss_cons (ps_fld (pv 0) pe_non rfl)
      (pss_one (ps_fld (pv 0) (pe_lst pa_nil) rfl)))), ?_⟩
    refine ⟨_, rfl, stf hself T.cl_Going T.n_Going_number (by decide) rfl ?_⟩
    refine stf upd_same T.cl_Going T.n_Going_hand (lt1000 (by kernel_rfl)) rfl ?_
    rw [upd_upd]
    refine ⟨by show 0 ≤ sizeLine; decide, fun p hp => ?_⟩
    have pa : p ≠ a := fun z => by rw [z, upd_same] at hp; cases hp
    rw [upd_ne pa] at hp
    refine stf (by rw [upd_ne (Ne.symm pa)]; exact upd_same) T.cl_Going T.n_Going_puts (lt1000 (by kernel_rfl)) (gg_made n none p) ?_
    exact k _ p hp (by rw [upd_ne pa]; exact upd_same) upd_same ((((Kept.refl [a] H).put (by simp)).new hp).put (by simp))
def sp_Work_init (K : PySem.W.Frag) : Sp := fun vs H Q _ => ∃ (a dx : Addr) (b g m c : Int) (gr : Str) (mk fo : Option Int), vs = [.ref a, .int b, .int g, .int m, .int c, .str gr, oV mk, oV fo] ∧ H a = some (.ins (cWork K) dx []) ∧
  ∀ H', H' a = some (.ins (cWork K) dx (woF ⟨b, g, m, c, gr, mk, fo, none⟩)) → Kept [a] H H' → Q .non H'
theorem ok_Work_init (T : T w K mg) : FnR P w K mg base CX0 1 (He.ma K (He.ga K "Work") "__init__") (sp_Work_init K) := by
  obtain ⟨fd, F⟩ := T.f_Work_init
  refine F.r sc_Work_init (fun _ _ _ _ _ _ us hl => match us, hl with | [_, _, _, _, _, _, _, _], _ => rfl) (fun vs H Q E h => ?_) (fun cdv A outer s H vs Q E hr h => ?_)
  · obtain ⟨_, _, _, _, _, _, _, _, _, rfl, _⟩ := h
    rfl
  · obtain ⟨a, dx, b, g, m, c, gr, mk, fo, rfl, hself, k⟩ := h
    refine ⟨_, (pss_cons (ps_fld (pv 0) (pv 1) rfl)
      (pss_cons (ps_fld (pv 0) (pv 2) rfl)
      (pss_cons (ps_fld (pv 0) (pv 3) rfl)
      (pss_cons (ps_fld (pv 0) (pv 4) rfl)
      (pss_cons (ps_fld (pv 0) (pv 5) rfl)
      (pss_cons (ps_fld (pv 0) (pv 6) rfl)
      (pss_cons (ps_fld (pv 0) (pv 7) rfl)
      (pss_one (ps_fld (pv 0) pe_non rfl))))))))), ?_⟩
    refine ⟨_, rfl, stf hself T.cl_Work T.n_Work_begin (by decide) rfl ?_⟩
    refine ⟨_, rfl, stf upd_same T.cl_Work T.n_Work_goal (lt1000 (by kernel_rfl)) rfl ?_⟩
    refine ⟨_, rfl, stf upd_same T.cl_Work T.n_Work_many (lt1000 (by kernel_rfl)) rfl ?_⟩
    refine ⟨_, rfl, stf upd_same T.cl_Work T.n_Work_block (lt1000 (by kernel_rfl)) rfl ?_⟩
    refine ⟨_, rfl, stf upd_same T.cl_Work T.n_Work_greed (lt1000 (by kernel_rfl)) rfl ?_⟩
    refine ⟨_, rfl, stf upd_same T.cl_Work T.n_Work_mark (lt1000 (by kernel_rfl)) rfl ?_⟩
    refine ⟨_, rfl, stf upd_same T.cl_Work T.n_Work_follow (lt1000 (by kernel_rfl)) rfl ?_⟩
    refine stf upd_same T.cl_Work T.n_Work_going (lt1000 (by kernel_rfl)) (wo_made b g m c gr mk fo none) ?_
    exact k _ upd_same (((((((((Kept.refl [a] H).put (by simp)).put (by simp)).put (by simp)).put (by simp)).put (by simp)).put (by simp)).put (by simp)).put (by simp))
def sp_Work_held_off (K : PySem.W.Frag) : Sp := fun vs H Q _ => ∃ (a dx m g dg pl : Addr) (k : Wk) (n : Int) (xs : List V) (ms : List Bool), vs = [.ref a, .ref m] ∧ H a = some (.ins (cWork K) dx (woF (k.wo (some g)))) ∧ H g = some (.ins (cGoing K) dg (ggF ⟨n, k.hand, pl⟩)) ∧ H pl = some (.lst xs) ∧ (xs.length : Int) = k.laid ∧ H m = some (.lst (ms.map V.bl)) ∧ 0 < k.block ∧ (∀ i, k.mark = some i → 0 ≤ i ∧ i < ms.length) ∧ Q (.bl (k.held ms)) H
theorem at_bl {ms : List Bool} {z : Int} (h0 : 0 ≤ z) (h1 : z < ms.length) : atI (ms.map V.bl) z = some (.bl (ms.getD z.toNat false)) := by
  unfold atI ixN
  rw [if_pos h0, List.length_map, if_pos h1]
  have : z.toNat < ms.length := by omega
  simp [List.getD, List.getElem?_eq_getElem this]
theorem dec_intv {x y : Int} : decide (V.int x = V.int y) = decide (x = y) := by
  by_cases z : x = y
  · rw [decide_eq_true z, decide_eq_true (by rw [z])]
  · rw [decide_eq_false z, decide_eq_false (fun y => z (V.int.inj y))]
theorem ok_Work_held_off (T : T w K mg) : FnR P w K mg base CX0 1 (He.ma K (He.ga K "Work") "held_off") (sp_Work_held_off K) := by
  obtain ⟨fd, F⟩ := T.f_Work_held_off
  refine F.r sc_Work_held_off (fun _ _ _ _ _ _ us hl => match us, hl with | [_, _], _ => rfl) (fun vs H Q E h => ?_) (fun cdv A outer s H vs Q E hr h => ?_)
  · obtain ⟨_, _, _, _, _, _, _, _, _, _, rfl, _⟩ := h
    rfl
  · obtain ⟨a, dx, m, g, dg, pl, k, n, xs, ms, rfl, hself, hg, hpl, hlen, hm, hb, hk, q⟩ := h
    refine ⟨_, (pss_cons (ps_if (PW.pt (pw_or (pt_cmp (pc_isN (pe_fld (pv 0) rfl))) (pw_or1 (pt_not (pt_val (pe_ix ix_list (pv 1) (pe_fld (pv 0) rfl) (fun _ _ => rfl)))))))
      (pss_one (ps_ret pe_bl))
      pss_nil)
      (pss_one (ps_ret (pe_and (pe_cmp (pc_isN (pe_fld (pe_fld (pv 0) rfl) rfl))) (pe_one (pe_cmpR op_eq (pe_op op_mod (pe_callB call_len_seq rfl T.u_len PySem.boot_len (pa_cons (pe_fld (pe_fld (pv 0) rfl) rfl) pa_nil)) (pe_fld (pv 0) rfl)) pe_int (nomark _))))))), ?_⟩
    refine ⟨_, rfl, _, _, _, _, _, rfl, hself, T.cl_Work, T.n_Work_mark, (wo_mark _), ?_⟩
    refine ⟨_, rfl, ?_⟩
    unfold Wk.held at q
    show if _ = true then _ else _
    cases e : k.mark with
    | none =>
      rw [e] at q
      have e' : (k.wo (some g)).mark = none := e
      rw [e']
      exact iteT (iteT q)
    | some i =>
      rw [e] at q
      have e' : (k.wo (some g)).mark = some i := e
      obtain ⟨h0, h1⟩ := hk i e
      rw [e']
      refine iteF ?_
      refine ⟨_, rfl, ?_⟩
      refine ⟨_, rfl, _, _, _, _, _, rfl, hself, T.cl_Work, T.n_Work_mark, (wo_mark _), ?_⟩
      refine ⟨_, _, _, _, rfl, by rw [e']; rfl, SqL.of hm, at_bl h0 h1, ?_⟩
      refine ⟨_, rfl, ?_⟩
      cases c : ms.getD i.toNat false with
      | false =>
        have q2 : Q (.bl false) H := by
          have q3 : Q (.bl (if ms.getD i.toNat false = true then (k.hand.isNone && decide (k.laid % k.block = 0)) else false)) H := q
          rw [c] at q3
          exact q3
        exact iteT q2
      | true =>
        have q2 : Q (.bl (k.hand.isNone && decide (k.laid % k.block = 0))) H := by
          have q3 : Q (.bl (if ms.getD i.toNat false = true then (k.hand.isNone && decide (k.laid % k.block = 0)) else false)) H := q
          rw [c] at q3
          exact q3
        refine iteF ?_
        refine ⟨_, rfl, _, _, _, _, _, rfl, hself, T.cl_Work, T.n_Work_going, (wo_going _), ?_⟩
        refine ⟨_, _, _, _, _, rfl, hg, T.cl_Going, T.n_Going_hand, (gg_hand _), ?_⟩
        refine ⟨_, rfl, ?_⟩
        show if _ = true then _ else _
        cases eh : k.hand with
        | none =>
          rw [eh] at q2
          refine iteT ?_
          refine ⟨_, rfl, _, _, _, _, _, rfl, hself, T.cl_Work, T.n_Work_going, (wo_going _), ?_⟩
          refine ⟨_, _, _, _, _, rfl, hg, T.cl_Going, T.n_Going_puts, (gg_puts _), ?_⟩
          refine ⟨_, _, rfl, .inl (SqL.of hpl), ?_⟩
          refine ⟨_, rfl, _, _, _, _, _, rfl, hself, T.cl_Work, T.n_Work_block, (wo_block _), ?_⟩
          refine ⟨_, _, rfl, rfl, hb, ?_⟩
          refine ⟨rfl, ?_⟩
          show Q (.bl (decide (V.int ((xs.length : Int) % k.block) = V.int 0))) H
          rw [dec_intv, hlen]
          exact q2
        | some x =>
          rw [eh] at q2
          exact iteF q2
def sp_Work_may_take (K : PySem.W.Frag) : Sp := fun vs H Q _ => ∃ (a dx : Addr) (k : Wo) (wanted took : Bool), vs = [.ref a, .bl wanted, .bl took] ∧ H a = some (.ins (cWork K) dx (woF k)) ∧ Q (.bl ((mayK k.greed) wanted took)) H
theorem dec_str {x y : Str} : decide (V.str x = V.str y) = decide (x = y) := by
  by_cases z : x = y
  · rw [decide_eq_true z, decide_eq_true (by rw [z])]
  · rw [decide_eq_false z, decide_eq_false (fun y => z (V.str.inj y))]
theorem ok_Work_may_take (T : T w K mg) : FnR P w K mg base CX0 1 (He.ma K (He.ga K "Work") "may_take") (sp_Work_may_take K) := by
  obtain ⟨fd, F⟩ := T.f_Work_may_take
  refine F.r sc_Work_may_take (fun _ _ _ _ _ _ us hl => match us, hl with | [_, _, _], _ => rfl) (fun vs H Q E h => ?_) (fun cdv A outer s H vs Q E hr h => ?_)
  · obtain ⟨_, _, _, _, _, rfl, _⟩ := h
    rfl
  · obtain ⟨a, dx, k, wanted, took, rfl, hself, q⟩ := h
    refine ⟨_, (pss_cons (ps_if (PW.pt (pw_or (pt_cmpR op_eq (pe_fld (pv 0) rfl) pe_str (nomark _)) (pw_or1 (pt_not (pt_val (pv 1))))))
      (pss_one (ps_ret pe_bl))
      pss_nil)
      (pss_one (ps_ret (pe_and (pe_cmpR op_eq (pe_fld (pv 0) rfl) pe_str (nomark _)) (pe_one (pe_not (pv 2))))))), ?_⟩
    refine ⟨_, rfl, _, _, _, _, _, rfl, hself, T.cl_Work, T.n_Work_greed, (wo_greed _), ?_⟩
    refine ⟨rfl, ?_⟩
    refine ⟨_, rfl, ?_⟩
    rw [dec_str]
    unfold mayK at q
    by_cases g : k.greed = "all"
    · rw [if_pos g] at q
      rw [decide_eq_true g]
      exact iteT (iteT q)
    · rw [if_neg g] at q
      rw [decide_eq_false g]
      refine iteF ?_
      refine ⟨_, rfl, ?_⟩
      refine ⟨_, rfl, ?_⟩
      cases wanted with
      | false => exact iteT q
      | true =>
        rw [if_neg (by decide)] at q
        refine iteF ?_
        refine ⟨_, rfl, _, _, _, _, _, rfl, hself, T.cl_Work, T.n_Work_greed, (wo_greed _), ?_⟩
        refine ⟨rfl, ?_⟩
        refine ⟨_, rfl, ?_⟩
        rw [dec_str]
        by_cases g2 : k.greed = "turn"
        · rw [if_pos g2] at q
          rw [decide_eq_true g2]
          refine iteT ?_
          refine ⟨_, rfl, ?_⟩
          exact ⟨_, rfl, q⟩
        · rw [if_neg g2] at q
          rw [decide_eq_false g2]
          exact iteF q

def FetchPost (K : PySem.W.Frag) (H H' : Hp) (p g dg pl : Addr) (n : Int) (k : Wk) (ws : List Int) : Prop :=
  H p = none ∧ H' p = some (.tup [.str "get", .int ((k.begin + k.laid) % ws.length), .int (ws.getD ((k.begin + k.laid) % ws.length).toNat 0)]) ∧ H' g = some (.ins (cGoing K) dg (ggF ⟨n, some (ws.getD ((k.begin + k.laid) % ws.length).toNat 0), pl⟩)) ∧ Kept [g] H H'
def sp_Work_fetch (K : PySem.W.Frag) : Sp := fun vs H Q _ => ∃ (a dx g dg pl l : Addr) (k : Wk) (n : Int) (xs : List V) (ws : List Int), vs = [.ref a, .ref l] ∧ H a = some (.ins (cWork K) dx (woF (k.wo (some g)))) ∧ H g = some (.ins (cGoing K) dg (ggF ⟨n, k.hand, pl⟩)) ∧ H pl = some (.lst xs) ∧ (xs.length : Int) = k.laid ∧
  H l = some (.lst (ws.map V.int)) ∧ 0 < ws.length ∧ ∀ H' p, FetchPost K H H' p g dg pl n k ws → Q (.ref p) H'
theorem ok_Work_fetch (T : T w K mg) : FnR P w K mg base CX0 1 (He.ma K (He.ga K "Work") "fetch") (sp_Work_fetch K) := by
  obtain ⟨fd, F⟩ := T.f_Work_fetch
  refine F.r sc_Work_fetch (fun _ _ _ _ _ _ us hl => match us, hl with | [_, _], _ => rfl) (fun vs H Q E h => ?_) (fun cdv A outer s H vs Q E hr h => ?_)
  · obtain ⟨_, _, _, _, _, _, _, _, _, _, rfl, _⟩ := h
    rfl
  · obtain ⟨a, dx, g, dg, pl, l, k, n, xs, ws, rfl, hself, hg, hpl, hlen, hl, hw, q⟩ := h
    obtain ⟨m0, m1⟩ := mod_rg (x := k.begin + k.laid) hw
    refine ⟨_, (pss_cons (ps_set (i := 2) sc_Work_fetch.nd rfl (Or.inl rfl) (pe_fld (pv 0) rfl))
      (pss_cons (ps_set (i := 3) sc_Work_fetch.nd rfl (Or.inl rfl) (pe_op op_mod (pe_op op_add (pe_fld (pv 0) rfl) (pe_callB call_len_seq rfl T.u_len PySem.boot_len (pa_cons (pe_fld (pv 2) rfl) pa_nil))) (pe_callB call_len_seq rfl T.u_len PySem.boot_len (pa_cons (pv 1) pa_nil))))
      (pss_cons (ps_fld (pv 2) (pe_ix ix_list (pv 1) (pv 3) (fun _ _ => rfl)) rfl)
      (pss_one (ps_ret (pe_tup (pa_cons pe_str (pa_cons (pv 3) (pa_cons (pe_fld (pv 2) rfl) pa_nil))))))))), ?_⟩
    refine ⟨_, rfl, _, _, _, _, _, rfl, hself, T.cl_Work, T.n_Work_going, wo_going _, ?_⟩ -- going = self.going
    refine ⟨_, rfl, _, _, _, _, _, rfl, hself, T.cl_Work, T.n_Work_begin, wo_begin _, ?_⟩
    refine ⟨_, rfl, _, _, _, _, _, rfl, hg, T.cl_Going, T.n_Going_puts, gg_puts _, ?_⟩
    refine ⟨_, _, rfl, .inl (SqL.of hpl), ?_⟩ -- len
    refine ⟨_, _, rfl, rfl, ?_⟩ -- self.begin + len
    refine ⟨_, rfl, ?_⟩ -- words
    refine ⟨_, _, rfl, .inl (SqL.of hl), ?_⟩ -- len
    rw [List.length_map]
    refine ⟨_, _, rfl, rfl, (by omega), ?_⟩ -- %
    rw [hlen]
    refine ⟨_, rfl, ?_⟩ -- words
    refine ⟨_, rfl, ?_⟩ -- address
    refine ⟨_, _, _, _, rfl, rfl, SqL.of hl, at_int m0 m1, ?_⟩ -- words[address]
    refine stf hg T.cl_Going T.n_Going_hand (gg_len _) (gg_put_handS _ _) ?_ -- going.hand = words[address]
    refine ⟨_, rfl, ?_⟩ -- address
    refine ⟨_, rfl, _, _, _, _, _, rfl, upd_same, T.cl_Going, T.n_Going_hand, gg_hand _, ?_⟩
    refine ⟨by show 3 ≤ sizeLine; decide, fun p hp => ?_⟩ -- ('get', address, self.hand)
    have pg : p ≠ g := fun z => by rw [z, upd_same] at hp; cases hp
    rw [upd_ne pg] at hp
    exact q _ p ⟨hp, upd_same, by rw [upd_ne (Ne.symm pg)]; exact upd_same, ((Kept.refl _ H).put (by simp)).new hp⟩
def LayPost (K : PySem.W.Frag) (H H' : Hp) (p t a dx g dg pl l : Addr) (n when : Int) (k : Wk) (xs : List V) (ws : List Int) (x : Int) : Prop :=
  H p = none ∧ H t = none ∧ H' p = some (.tup [.str "put", .int ((k.goal + k.laid) % ws.length), .int x]) ∧ H' t = some (.tup [.int when, .int ((k.goal + k.laid) % ws.length)]) ∧ H' pl = some (.lst (xs ++ [.ref t])) ∧ H' g = some (.ins (cGoing K) dg (ggF ⟨n, none, pl⟩)) ∧
  H' a = some (.ins (cWork K) dx (woF (k.wo (if k.laid + 1 < k.many then some g else none)))) ∧ H' l = some (.lst ((ws.set ((k.goal + k.laid) % ws.length).toNat x).map V.int)) ∧ Kept [a, g, pl, l] H H'
def sp_Work_lay (K : PySem.W.Frag) : Sp := fun vs H Q _ => ∃ (a dx g dg pl l : Addr) (k : Wk) (n when x : Int) (xs : List V) (ws : List Int), vs = [.ref a, .int when, .ref l] ∧ H a = some (.ins (cWork K) dx (woF (k.wo (some g)))) ∧ H g = some (.ins (cGoing K) dg (ggF ⟨n, k.hand, pl⟩)) ∧ H pl = some (.lst xs) ∧ (xs.length : Int) = k.laid ∧
  H l = some (.lst (ws.map V.int)) ∧ 0 < ws.length ∧ a ≠ g ∧ l ≠ pl ∧ k.hand = some x ∧ k.laid < k.many ∧ k.laid < 1000 ∧ ∀ H' p t, LayPost K H H' p t a dx g dg pl l n when k xs ws x → Q (.ref p) H'
theorem ok_Work_lay (T : T w K mg) : FnR P w K mg base CX0 1 (He.ma K (He.ga K "Work") "lay") (sp_Work_lay K) := by
  obtain ⟨fd, F⟩ := T.f_Work_lay
  refine F.r sc_Work_lay (fun _ _ _ _ _ _ us hl => match us, hl with | [_, _, _], _ => rfl) (fun vs H Q E h => ?_) (fun cdv A outer s H vs Q E hr h => ?_)
  · obtain ⟨_, _, _, _, _, _, _, _, _, _, _, _, rfl, _⟩ := h
    rfl
  · obtain ⟨a, dx, g, dg, pl, l, k, n, when, x, xs, ws, rfl, hself, hg, hpl, hlen, hl, hw, ag, lpl, hx, hlm, hl3, q⟩ := h
    obtain ⟨m0, m1⟩ := mod_rg (x := k.goal + k.laid) hw
    have al : a ≠ l := ne_of hself hl (by intro z; cases z)
    have apl : a ≠ pl := ne_of hself hpl (by intro z; cases z)
    have gl : g ≠ l := ne_of hg hl (by intro z; cases z)
    have gpl : g ≠ pl := ne_of hg hpl (by intro z; cases z)
    refine ⟨_, (pss_cons (ps_set (i := 3) sc_Work_lay.nd rfl (Or.inl rfl) (pe_fld (pv 0) rfl))
      (pss_cons (ps_set (i := 4) sc_Work_lay.nd rfl (Or.inl rfl) (pe_op op_mod (pe_op op_add (pe_fld (pv 0) rfl) (pe_callB call_len_seq rfl T.u_len PySem.boot_len (pa_cons (pe_fld (pv 3) rfl) pa_nil))) (pe_callB call_len_seq rfl T.u_len PySem.boot_len (pa_cons (pv 2) pa_nil))))
      (pss_cons (ps_set (i := 5) sc_Work_lay.nd rfl (Or.inl rfl) (pe_fld (pv 3) rfl))
      (pss_cons (ps_asg (pv 5) (pg_sub (pv 2) (pv 4) set_list))
      (pss_cons (ps_fld (pv 3) pe_non rfl)
      (pss_cons (ps_expr (pe_bm PySem.F.plainAttrs_list PySem.F.slot_list_append PySem.F.type_list_append mt_append (pe_fld (pv 3) rfl) (pa_cons (pe_tup (pa_cons (pv 1) (pa_cons (pv 4) pa_nil))) pa_nil)))
      (pss_cons (ps_if (pt_cmpR op_eq (pe_callB call_len_seq rfl T.u_len PySem.boot_len (pa_cons (pe_fld (pv 3) rfl) pa_nil)) (pe_fld (pv 0) rfl) (nomark _))
      (pss_one (ps_fld (pv 0) pe_non rfl))
      pss_nil)
      (pss_one (ps_ret (pe_tup (pa_cons pe_str (pa_cons (pv 4) (pa_cons (pv 5) pa_nil))))))))))))), ?_⟩
    refine ⟨_, rfl, _, _, _, _, _, rfl, hself, T.cl_Work, T.n_Work_going, wo_going _, ?_⟩ -- going = self.going
    refine ⟨_, rfl, _, _, _, _, _, rfl, hself, T.cl_Work, T.n_Work_goal, wo_goal _, ?_⟩
    refine ⟨_, rfl, _, _, _, _, _, rfl, hg, T.cl_Going, T.n_Going_puts, gg_puts _, ?_⟩
    refine ⟨_, _, rfl, .inl (SqL.of hpl), ?_⟩ -- len
    refine ⟨_, _, rfl, rfl, ?_⟩ -- self.goal + len
    refine ⟨_, rfl, ?_⟩ -- words
    refine ⟨_, _, rfl, .inl (SqL.of hl), ?_⟩ -- len
    rw [List.length_map]
    refine ⟨_, _, rfl, rfl, (by omega), ?_⟩ -- %
    rw [hlen]
    refine ⟨_, rfl, _, _, _, _, _, rfl, hg, T.cl_Going, T.n_Going_hand, gg_hand _, ?_⟩ -- word = going.hand
    refine ⟨_, rfl, ?_⟩ -- word
    refine ⟨_, rfl, ?_⟩ -- words
    refine ⟨_, rfl, ?_⟩ -- address
    refine ⟨_, _, _, _, rfl, rfl, hl, ix_ok m0 (by rw [List.length_map]; exact m1), ?_⟩ -- words[address] = word
    show (tSeq _ _) _ _ (upd H l (.lst ((ws.map V.int).set _ (oV k.hand))))
    rw [hx]
    show (tSeq _ _) _ _ (upd H l (.lst ((ws.map V.int).set _ (V.int x))))
    rw [set_int]
    show (tSeq _ _) _ _ (upd H l (.lst ((ws.set ((k.goal + k.laid) % ws.length).toNat x).map V.int)))
    generalize e1 : upd H l (.lst ((ws.set ((k.goal + k.laid) % ws.length).toNat x).map V.int)) = H1
    have hg1 : H1 g = some (.ins (cGoing K) dg (ggF ⟨n, k.hand, pl⟩)) := by rw [← e1, upd_ne gl]; exact hg
    refine stf hg1 T.cl_Going T.n_Going_hand (gg_len _) (gg_put_handN _) ?_ -- going.hand = None
    generalize e2 : upd H1 g _ = H2
    have hg2 : H2 g = some (.ins (cGoing K) dg (ggF ⟨n, none, pl⟩)) := by rw [← e2]; exact upd_same
    have hpl2 : H2 pl = some (.lst xs) := by rw [← e2, upd_ne (Ne.symm gpl), ← e1, upd_ne (Ne.symm lpl)]; exact hpl
    have ha2 : H2 a = some (.ins (cWork K) dx (woF (k.wo (some g)))) := by rw [← e2, upd_ne ag, ← e1, upd_ne al]; exact hself
    have hl2 : H2 l = some (.lst ((ws.set ((k.goal + k.laid) % ws.length).toNat x).map V.int)) := by rw [← e2, upd_ne (Ne.symm gl), ← e1]; exact upd_same
    have k2 : Kept [a, g, pl, l] H H2 := by rw [← e2, ← e1]; exact ((Kept.refl _ H).put (by simp)).put (by simp)
    have f2 : ∀ p, H2 p = none → H p = none := fun p hp => by
      have h1 : p ≠ g := fun z => by rw [z, hg2] at hp; cases hp
      have h2 : p ≠ l := fun z => by rw [z, hl2] at hp; cases hp
      rw [← e2, upd_ne h1, ← e1, upd_ne h2] at hp
      exact hp
    refine ⟨_, rfl, _, _, _, _, _, rfl, hg2, T.cl_Going, T.n_Going_puts, gg_puts _, ?_⟩
    refine ⟨.inl ⟨rfl, _, SqL.of hpl2⟩, ?_⟩
    refine ⟨_, rfl, ?_⟩ -- when
    refine ⟨_, rfl, ?_⟩ -- address
    refine ⟨by show 2 ≤ sizeLine; decide, fun t ht => ?_⟩ -- (when, address)
    have tpl : pl ≠ t := ne_of_none hpl2 ht
    have tg : g ≠ t := ne_of_none hg2 ht
    have ta : a ≠ t := ne_of_none ha2 ht
    have tl : l ≠ t := ne_of_none hl2 ht
    refine ⟨_, _, _, rfl, rfl, by rw [upd_ne tpl]; exact hpl2, by show xs.length < 16777216; omega, ?_⟩ -- append
    generalize e3 : upd (upd H2 t _) pl _ = H3
    have hpl3 : H3 pl = some (.lst (xs ++ [.ref t])) := by rw [← e3]; exact upd_same
    have hg3 : H3 g = some (.ins (cGoing K) dg (ggF ⟨n, none, pl⟩)) := by rw [← e3, upd_ne gpl, upd_ne tg]; exact hg2
    have ha3 : H3 a = some (.ins (cWork K) dx (woF (k.wo (some g)))) := by rw [← e3, upd_ne apl, upd_ne ta]; exact ha2
    have hl3' : H3 l = some (.lst ((ws.set ((k.goal + k.laid) % ws.length).toNat x).map V.int)) := by rw [← e3, upd_ne lpl, upd_ne tl]; exact hl2
    have ht3 : H3 t = some (.tup [.int when, .int ((k.goal + k.laid) % ws.length)]) := by rw [← e3, upd_ne (Ne.symm tpl)]; exact upd_same
    have k3 : Kept [a, g, pl, l] H H3 := by rw [← e3]; exact (k2.new (f2 t ht)).put (by simp)
    refine ⟨_, rfl, _, _, _, _, _, rfl, hg3, T.cl_Going, T.n_Going_puts, gg_puts _, ?_⟩
    refine ⟨_, _, rfl, .inl (SqL.of hpl3), ?_⟩ -- len
    refine ⟨_, rfl, _, _, _, _, _, rfl, ha3, T.cl_Work, T.n_Work_many, wo_many _, ?_⟩
    refine ⟨rfl, ?_⟩
    refine ⟨_, rfl, ?_⟩ -- test
    rw [dec_intv]
    have el : ((xs ++ [V.ref t]).length : Int) = k.laid + 1 := by rw [List.length_append]; show ((xs.length + 1 : Nat) : Int) = _; omega
    rw [el]
    have fin : ∀ H4 : Hp, H4 pl = some (.lst (xs ++ [.ref t])) → H4 g = some (.ins (cGoing K) dg (ggF ⟨n, none, pl⟩)) → H4 a = some (.ins (cWork K) dx (woF (k.wo (if k.laid + 1 < k.many then some g else none)))) → H4 l = some (.lst ((ws.set ((k.goal + k.laid) % ws.length).toNat x).map V.int)) →
        H4 t = some (.tup [.int when, .int ((k.goal + k.laid) % ws.length)]) → Kept [a, g, pl, l] H H4 → (∀ p, H4 p = none → H p = none) →
        tRet (tTup (tCons (tC (.str "put")) (tCons (tVar 4) (tCons (tVar 5) tNil)))) { nx := fun _ H' => Q .non H', rt := Q } [some (.ref a), some (.int when), some (.ref l), some (.ref g), some (.int ((k.goal + k.laid) % ws.length)), some (oV (some x))] H4 := by
      intro H4 a1 a2 a3 a4 a5 a6 a7
      refine ⟨_, rfl, ?_⟩ -- address
      refine ⟨_, rfl, ?_⟩ -- word
      refine ⟨by show 3 ≤ sizeLine; decide, fun p hp => ?_⟩ -- ('put', address, word)
      have np := a7 p hp
      exact q _ p t ⟨np, f2 t ht, upd_same, by rw [upd_ne (ne_of_none a5 hp)]; exact a5, by rw [upd_ne (ne_of_none a1 hp)]; exact a1, by rw [upd_ne (ne_of_none a2 hp)]; exact a2, by rw [upd_ne (ne_of_none a3 hp)]; exact a3, by rw [upd_ne (ne_of_none a4 hp)]; exact a4, a6.new np⟩
    have f3 : ∀ p, H3 p = none → H p = none := fun p hp => by
      have h1 : p ≠ pl := fun z => by rw [z, hpl3] at hp; cases hp
      have h2 : p ≠ t := fun z => by rw [z, ht3] at hp; cases hp
      rw [← e3, upd_ne h1, upd_ne h2] at hp
      exact f2 p hp
    by_cases c : k.laid + 1 = k.many
    · have c' : ¬ k.laid + 1 < k.many := by omega
      rw [if_neg c'] at fin
      have c2 : (k.laid + 1 = (k.wo (some g)).many) := c
      rw [decide_eq_true c2]
      refine iteT ?_
      refine stf ha3 T.cl_Work T.n_Work_going (wo_len _) (wo_put_goingN _) ?_
      refine fin _ (by rw [upd_ne (Ne.symm apl)]; exact hpl3) (by rw [upd_ne (Ne.symm ag)]; exact hg3) upd_same (by rw [upd_ne (Ne.symm al)]; exact hl3') (by rw [upd_ne (Ne.symm ta)]; exact ht3) (k3.put (by simp)) (fun p hp => ?_)
      have h1 : p ≠ a := fun z => by rw [z, upd_same] at hp; cases hp
      rw [upd_ne h1] at hp
      exact f3 p hp
    · have c' : k.laid + 1 < k.many := by omega
      rw [if_pos c'] at fin
      have c2 : ¬ (k.laid + 1 = (k.wo (some g)).many) := c
      rw [decide_eq_false c2]
      exact iteF (fin _ hpl3 hg3 ha3 hl3' ht3 k3 f3)
def sp_Work_move (K : PySem.W.Frag) : Sp := fun vs H Q _ => ∃ (a dx g dg pl l : Addr) (k : Wk) (n when : Int) (xs : List V) (ws : List Int), vs = [.ref a, .int when, .ref l] ∧ H a = some (.ins (cWork K) dx (woF (k.wo (some g)))) ∧ H g = some (.ins (cGoing K) dg (ggF ⟨n, k.hand, pl⟩)) ∧ H pl = some (.lst xs) ∧ (xs.length : Int) = k.laid ∧
  H l = some (.lst (ws.map V.int)) ∧ 0 < ws.length ∧ a ≠ g ∧ l ≠ pl ∧ k.laid < k.many ∧ k.laid < 1000 ∧ (k.hand = none → ∀ H' p, FetchPost K H H' p g dg pl n k ws → Q (.ref p) H') ∧ (∀ x, k.hand = some x → ∀ H' p t, LayPost K H H' p t a dx g dg pl l n when k xs ws x → Q (.ref p) H')
theorem ok_Work_move (T : T w K mg) : FnR P w K mg base CX0 2 (He.ma K (He.ga K "Work") "move") (sp_Work_move K) := by
  have F_Work_fetch : FnR P w K mg base CX0 1 _ _ := ok_Work_fetch T
  have F_Work_lay : FnR P w K mg base CX0 1 _ _ := ok_Work_lay T
  obtain ⟨fd, F⟩ := T.f_Work_move
  refine F.r sc_Work_move (fun _ _ _ _ _ _ us hl => match us, hl with | [_, _, _], _ => rfl) (fun vs H Q E h => ?_) (fun cdv A outer s H vs Q E hr h => ?_)
  · obtain ⟨_, _, _, _, _, _, _, _, _, _, _, rfl, _⟩ := h
    rfl
  · obtain ⟨a, dx, g, dg, pl, l, k, n, when, xs, ws, rfl, hself, hg, hpl, hlen, hl, hw, ag, lpl, hlm, hl3, q1, q2⟩ := h
    refine ⟨_, (pss_cons (ps_if (pt_cmp (pc_isN (pe_fld (pe_fld (pv 0) rfl) rfl)))
      (pss_one (ps_ret (pe_mthR (pv 0) T.cl_Work T.m_Work_fetch F_Work_fetch (hr.mono (by decide)) (pa_cons (pv 2) pa_nil))))
      pss_nil)
      (pss_one (ps_ret (pe_mthR (pv 0) T.cl_Work T.m_Work_lay F_Work_lay (hr.mono (by decide)) (pa_cons (pv 1) (pa_cons (pv 2) pa_nil)))))), ?_⟩
    refine ⟨_, rfl, _, _, _, _, _, rfl, hself, T.cl_Work, T.n_Work_going, wo_going _, ?_⟩
    refine ⟨_, _, _, _, _, rfl, hg, T.cl_Going, T.n_Going_hand, gg_hand _, ?_⟩
    refine ⟨_, rfl, ?_⟩ -- test
    show if _ = true then _ else _
    cases hn : k.hand with
    | none =>
      refine iteT ?_
      refine ⟨_, rfl, ?_⟩ -- self
      refine ⟨_, _, _, rfl, hself, wo_no_fetch _, ?_⟩
      refine ⟨_, rfl, ?_⟩ -- words
      exact ⟨a, dx, g, dg, pl, l, k, n, xs, ws, rfl, hself, hg, hpl, hlen, hl, hw, q1 hn⟩
    | some x =>
      refine iteF ?_
      refine ⟨_, rfl, ?_⟩ -- self
      refine ⟨_, _, _, rfl, hself, wo_no_lay _, ?_⟩
      refine ⟨_, rfl, _, rfl, ?_⟩ -- when, words
      exact ⟨a, dx, g, dg, pl, l, k, n, when, x, xs, ws, rfl, hself, hg, hpl, hlen, hl, hw, ag, lpl, hn, hlm, hl3, q2 x hn⟩
end
end SB

set_option Elab.async false
set_option linter.all false
set_option maxRecDepth 100000
set_option maxHeartbeats 2000000
namespace SB
open PySem L2
structure Go where
  n : Nat
  hand : Option Int
  pu : List (Int × Int)
structure GH where
  G : List Go
  cur : List (Option Nat)
  nb : Nat
def GH.start (g : GH) (n : Nat) : GH := match g.cur[n]? with
  | some none => { g with G := g.G ++ [⟨n, none, []⟩], cur := g.cur.set n (some g.G.length) }
  | _ => g
def GH.move (g : GH) (j : Nat) (k : Wk) (when : Int) (ws : List Int) : GH := match g.cur[j]? with
  | some (some i) => (match g.G[i]? with
    | some e => (match k.hand with
      | none => { g with G := g.G.set i { e with hand := some (ws.getD ((k.begin + k.laid) % ws.length).toNat 0) } }
      | some _ => { g with G := g.G.set i { e with hand := none, pu := e.pu ++ [(when, (k.goal + k.laid) % ws.length)] }, cur := if k.laid + 1 < k.many then g.cur else g.cur.set j none })
    | none => g)
  | _ => g
structure GOk (ks : List Wk) (g : GH) : Prop where
  clen : g.cur.length = ks.length
  on : ∀ (j : Nat) (k : Wk) (i : Nat), ks[j]? = some k → g.cur[j]? = some (some i) → k.on = true ∧ ∃ e, g.G[i]? = some e ∧ e.n = j ∧ e.hand = k.hand ∧ (e.pu.length : Int) = k.laid ∧ k.laid < k.many
  off : ∀ (j : Nat) (k : Wk), ks[j]? = some k → g.cur[j]? = some none → k.on = false ∧ k.hand = none
  mb : ∀ k ∈ ks, 0 < k.many ∧ k.many ≤ 16
  nbl : g.nb ≤ g.G.length
section
variable {α : Type}
theorem gset_self {l : List α} {i : Nat} {x y : α} (h : l[i]? = some y) : (l.set i x)[i]? = some x := List.getElem?_set_self (List.getElem?_eq_some_iff.mp h).1
theorem gset_ne {l : List α} {i j : Nat} {x : α} (h : j ≠ i) : (l.set i x)[j]? = l[j]? := List.getElem?_set_ne (fun z => h z.symm)
theorem gapp {l r : List α} {i : Nat} {x : α} (h : l[i]? = some x) : (l ++ r)[i]? = some x := by rw [List.getElem?_append_left (List.getElem?_eq_some_iff.mp h).1]; exact h
theorem gend {l : List α} {x : α} : (l ++ [x])[l.length]? = some x := by simp
theorem set_same {l : List α} {i : Nat} {x : α} (h : l[i]? = some x) : l.set i x = l := by
  obtain ⟨hi, e⟩ := List.getElem?_eq_some_iff.mp h
  rw [← e]
  exact List.set_getElem_self hi
theorem modify_out {f : α → α} : ∀ {l : List α} {i : Nat}, l.length ≤ i → l.modify i f = l
  | [], i, _ => by cases i <;> rfl
  | a :: r, 0, h => by simp at h
  | a :: r, i + 1, h => by
    show a :: r.modify i f = a :: r
    rw [modify_out (by simpa using h)]
theorem modify_set {f : α → α} : ∀ {l : List α} {i : Nat} {x : α}, l[i]? = some x → l.modify i f = l.set i (f x)
  | [], i, x, h => by simp at h
  | a :: r, 0, x, h => by
    have e : a = x := by simpa using h
    subst e
    rfl
  | a :: r, i + 1, x, h => by
    show a :: r.modify i f = a :: r.set i (f x)
    rw [modify_set (by simpa using h)]
theorem all_modify {p : α → Prop} {f : α → α} (hf : ∀ x, p x → p (f x)) : ∀ {l : List α} {i : Nat}, (∀ x ∈ l, p x) → ∀ x ∈ l.modify i f, p x
  | [], i, h, x, hx => by cases i <;> simp [List.modify] at hx
  | a :: r, 0, h, x, hx => by
    have hx' : x ∈ f a :: r := hx
    rcases List.mem_cons.mp hx' with rfl | hx'
    · exact hf a (h a List.mem_cons_self)
    · exact h x (List.mem_cons_of_mem _ hx')
  | a :: r, i + 1, h, x, hx => by
    have hx' : x ∈ a :: r.modify i f := hx
    rcases List.mem_cons.mp hx' with rfl | hx'
    · exact h x List.mem_cons_self
    · exact all_modify hf (fun y hy => h y (List.mem_cons_of_mem _ hy)) x hx'
theorem all_set {p : α → Prop} {l : List α} {i : Nat} {y : α} (h : ∀ x ∈ l, p x) (hy : p y) : ∀ x ∈ l.set i y, p x := fun x hx => by
  rcases List.mem_or_eq_of_mem_set hx with z | z
  · exact h x z
  · rw [z]; exact hy
end
section
variable {ks : List Wk} {g : GH}
theorem start_none {n : Nat} (h : g.cur[n]? = none) : g.start n = g := by unfold GH.start; rw [h]
theorem start_on {n i : Nat} (h : g.cur[n]? = some (some i)) : g.start n = g := by unfold GH.start; rw [h]
theorem start_off {n : Nat} (h : g.cur[n]? = some none) : g.start n = { g with G := g.G ++ [⟨n, none, []⟩], cur := g.cur.set n (some g.G.length) } := by unfold GH.start; rw [h]
theorem move_eq {j i : Nat} {e : Go} {k : Wk} {when : Int} {ws : List Int} (h1 : g.cur[j]? = some (some i)) (h2 : g.G[i]? = some e) : g.move j k when ws = (match k.hand with
      | none => { g with G := g.G.set i { e with hand := some (ws.getD ((k.begin + k.laid) % ws.length).toNat 0) } }
      | some _ => { g with G := g.G.set i { e with hand := none, pu := e.pu ++ [(when, (k.goal + k.laid) % ws.length)] }, cur := if k.laid + 1 < k.many then g.cur else g.cur.set j none }) := by
  unfold GH.move
  rw [h1]
  simp only [h2]
theorem GOk.start_same (O : GOk ks g) {n : Nat} (h : g.cur[n]? ≠ some none) : ks.modify n Wk.start = ks := by
  cases e : g.cur[n]? with
  | none =>
    have := List.getElem?_eq_none_iff.mp e
    rw [O.clen] at this
    exact modify_out this
  | some o =>
    cases o with
    | none => exact absurd e h
    | some i =>
      have hn : n < ks.length := by rw [← O.clen]; exact (List.getElem?_eq_some_iff.mp e).1
      have hk := List.getElem?_eq_getElem hn
      rw [modify_set hk]
      have ho := (O.on n _ i hk e).1
      have es : (ks[n]).start = ks[n] := by unfold Wk.start; rw [if_pos ho]
      rw [es]
      exact set_same hk
theorem GOk.start (O : GOk ks g) (n : Nat) : GOk (ks.modify n Wk.start) (g.start n) := by
  by_cases h : g.cur[n]? = some none
  · have hn : n < ks.length := by rw [← O.clen]; exact (List.getElem?_eq_some_iff.mp h).1
    have hk := List.getElem?_eq_getElem hn
    obtain ⟨o1, o2⟩ := O.off n _ hk h
    rw [start_off h, modify_set hk]
    have es : (ks[n]).start = { ks[n] with on := true, laid := 0 } := by unfold Wk.start; rw [o1]; rfl
    rw [es]
    have mb := O.mb _ (List.mem_of_getElem? hk)
    refine ⟨by simp [O.clen], fun j k i h1 h2 => ?_, fun j k h1 h2 => ?_, all_set O.mb mb, ?_⟩
    · by_cases hj : j = n
      · subst hj
        rw [gset_self hk] at h1
        have h2' : (g.cur.set j (some g.G.length))[j]? = some (some i) := h2
        rw [gset_self h] at h2'
        cases h1
        cases h2'
        exact ⟨rfl, _, gend, rfl, o2.symm, rfl, mb.1⟩
      · rw [gset_ne hj] at h1
        have h2' : (g.cur.set n (some g.G.length))[j]? = some (some i) := h2
        rw [gset_ne hj] at h2'
        obtain ⟨p1, e, p2, p3⟩ := O.on j k i h1 h2'
        exact ⟨p1, e, gapp p2, p3⟩
    · by_cases hj : j = n
      · subst hj
        have h2' : (g.cur.set j (some g.G.length))[j]? = some none := h2
        rw [gset_self h] at h2'
        cases h2'
      · rw [gset_ne hj] at h1
        have h2' : (g.cur.set n (some g.G.length))[j]? = some none := h2
        rw [gset_ne hj] at h2'
        exact O.off j k h1 h2'
    · have := O.nbl
      show g.nb ≤ (g.G ++ [_]).length
      rw [List.length_append]
      omega
  · rw [O.start_same h]
    cases e : g.cur[n]? with
    | none => rw [start_none e]; exact O
    | some o =>
      cases o with
      | none => exact absurd e h
      | some i => rw [start_on e]; exact O
theorem GOk.inj (O : GOk ks g) {j j' i : Nat} (h : g.cur[j]? = some (some i)) (h' : g.cur[j']? = some (some i)) : j = j' := by
  have f : ∀ {j : Nat}, g.cur[j]? = some (some i) → ∃ k, ks[j]? = some k := fun {j} h => ⟨_, List.getElem?_eq_getElem (by rw [← O.clen]; exact (List.getElem?_eq_some_iff.mp h).1)⟩
  obtain ⟨k, hk⟩ := f h
  obtain ⟨k', hk'⟩ := f h'
  obtain ⟨_, e, e1, e2, _⟩ := O.on j k i hk h
  obtain ⟨_, e', e1', e2', _⟩ := O.on j' k' i hk' h'
  rw [e1] at e1'
  cases e1'
  rw [← e2, ← e2']
theorem GOk.move (O : GOk ks g) {j i : Nat} {k : Wk} {ws : List Int} {when : Int} (hk : ks[j]? = some k) (hc : g.cur[j]? = some (some i)) : GOk (ks.set j (k.move ws).1) (g.move j k when ws) := by
  obtain ⟨p1, e, p2, p3, p4, p5, p6⟩ := O.on j k i hk hc
  have hi : ∀ {j' i' : Nat}, g.cur[j']? = some (some i') → j' ≠ j → i' ≠ i := fun h n z => by subst z; exact n (O.inj h hc)
  rw [move_eq hc p2]
  have mb := O.mb _ (List.mem_of_getElem? hk)
  unfold Wk.move
  cases hh : k.hand with
  | none =>
    dsimp only
    refine ⟨by simp [O.clen], fun j' k' i' h1 h2 => ?_, fun j' k' h1 h2 => ?_, all_set O.mb mb, by simpa using O.nbl⟩
    · by_cases hj : j' = j
      · subst hj
        rw [gset_self hk] at h1
        cases h1
        have h2' : g.cur[j']? = some (some i') := h2
        rw [hc] at h2'
        cases h2'
        exact ⟨p1, _, gset_self p2, p3, rfl, p5, p6⟩
      · rw [gset_ne hj] at h1
        obtain ⟨q1, e', q2, q3⟩ := O.on j' k' i' h1 h2
        exact ⟨q1, e', by rw [gset_ne (hi h2 hj)]; exact q2, q3⟩
    · by_cases hj : j' = j
      · subst hj
        have h2' : g.cur[j']? = some none := h2
        rw [hc] at h2'
        cases h2'
      · rw [gset_ne hj] at h1
        exact O.off j' k' h1 h2
  | some x =>
    dsimp only
    have cl : (if k.laid + 1 < k.many then g.cur else g.cur.set j none).length = (ks.set j ({ k with hand := none, laid := k.laid + 1, on := decide (k.laid + 1 < k.many) })).length := by
      split <;> simp [O.clen]
    refine ⟨cl, fun j' k' i' h1 h2 => ?_, fun j' k' h1 h2 => ?_, all_set O.mb mb, by simpa using O.nbl⟩
    · by_cases hj : j' = j
      · subst hj
        rw [gset_self hk] at h1
        cases h1
        have h2' : (if k.laid + 1 < k.many then g.cur else g.cur.set j' none)[j']? = some (some i') := h2
        by_cases c : k.laid + 1 < k.many
        · rw [if_pos c, hc] at h2'
          cases h2'
          refine ⟨decide_eq_true c, _, gset_self p2, p3, rfl, ?_, c⟩
          show (((e.pu ++ [_]).length : Nat) : Int) = k.laid + 1
          rw [List.length_append]
          show ((e.pu.length + 1 : Nat) : Int) = k.laid + 1
          omega
        · rw [if_neg c, gset_self hc] at h2'
          cases h2'
      · rw [gset_ne hj] at h1
        have h2' : g.cur[j']? = some (some i') := by
          have h3 : (if k.laid + 1 < k.many then g.cur else g.cur.set j none)[j']? = some (some i') := h2
          by_cases c : k.laid + 1 < k.many
          · rw [if_pos c] at h3; exact h3
          · rw [if_neg c, gset_ne hj] at h3; exact h3
        obtain ⟨q1, e', q2, q3⟩ := O.on j' k' i' h1 h2'
        exact ⟨q1, e', by rw [gset_ne (hi h2' hj)]; exact q2, q3⟩
    · have h3 : (if k.laid + 1 < k.many then g.cur else g.cur.set j none)[j']? = some none := h2
      by_cases hj : j' = j
      · subst hj
        rw [gset_self hk] at h1
        cases h1
        by_cases c : k.laid + 1 < k.many
        · rw [if_pos c, hc] at h3
          cases h3
        · exact ⟨decide_eq_false c, rfl⟩
      · rw [gset_ne hj] at h1
        refine O.off j' k' h1 ?_
        by_cases c : k.laid + 1 < k.many
        · rw [if_pos c] at h3; exact h3
        · rw [if_neg c, gset_ne hj] at h3; exact h3
end
structure Step (F : List Addr) (H : Hp) (F' : List Addr) (H' : Hp) : Prop where
  kp : Kept F H H'
  gr : ∀ b ∈ F', b ∈ F ∨ H b = none
  fr : ∀ b, H' b = none → H b = none
theorem upd_none {H : Hp} {p b : Addr} {o : HO} (h : L2.upd H p o b = none) : H b = none := by
  by_cases e : b = p
  · rw [e, upd_same] at h; cases h
  · rw [upd_ne e] at h; exact h
theorem Kept.fr {as : List Addr} {H H' : Hp} (k : Kept as H H') (h : ∀ b ∈ as, H' b ≠ none) : ∀ b, H' b = none → H b = none := fun b hb => k.free hb (fun z => h b z hb)
theorem Step.refl (F : List Addr) (H : Hp) : Step F H F H := ⟨Kept.refl _ _, fun b h => .inl h, fun _ h => h⟩
theorem Step.same {F : List Addr} {H H' : Hp} (s : Same H H') : Step F H F H' := ⟨Kept.same s, fun b h => .inl h, fun _ h => Same.free s h⟩
theorem Step.of {F : List Addr} {H H' : Hp} (s : Kept F H H') (fr : ∀ b, H' b = none → H b = none) : Step F H F H' := ⟨s, fun b h => .inl h, fr⟩
theorem Step.trans {F F1 F2 : List Addr} {H H1 H2 : Hp} (a : Step F H F1 H1) (b : Step F1 H1 F2 H2) : Step F H F2 H2 := by
  refine ⟨fun c o h n => b.kp c o (a.kp c o h n) fun z => ?_, fun c hc => ?_, fun c h => a.fr c (b.fr c h)⟩
  · rcases a.gr c z with z | z
    · exact n z
    · rw [z] at h; cases h
  · rcases b.gr c hc with z | z
    · exact a.gr c z
    · exact .inr (a.fr c z)
theorem Step.apart {F F' : List Addr} {H H' : Hp} (a : Step F H F' H') {p : Addr} {o : HO} (h : H p = some o) (n : p ∉ F) : p ∉ F' := fun z => by
  rcases a.gr p z with z | z
  · exact n z
  · rw [z] at h; cases h
structure Stp (X F : List Addr) (H : Hp) (F' : List Addr) (H' : Hp) : Prop where
  kp : Kept (X ++ F) H H'
  gr : ∀ b ∈ F', b ∈ F ∨ H b = none
  fr : ∀ b, H' b = none → H b = none
theorem Stp.refl (X F : List Addr) (H : Hp) : Stp X F H F H := ⟨Kept.refl _ _, fun b h => .inl h, fun _ h => h⟩
theorem Stp.same {X F : List Addr} {H H' : Hp} (s : Same H H') : Stp X F H F H' := ⟨Kept.same s, fun b h => .inl h, fun _ h => Same.free s h⟩
theorem Stp.of {X F : List Addr} {H H' : Hp} (s : Kept (X ++ F) H H') (fr : ∀ b, H' b = none → H b = none) : Stp X F H F H' := ⟨s, fun b h => .inl h, fr⟩
theorem Stp.trans {X F F1 F2 : List Addr} {H H1 H2 : Hp} (a : Stp X F H F1 H1) (b : Stp X F1 H1 F2 H2) : Stp X F H F2 H2 := by
  refine ⟨fun c o h n => b.kp c o (a.kp c o h n) fun z => ?_, fun c hc => ?_, fun c h => a.fr c (b.fr c h)⟩
  · rcases List.mem_append.mp z with z | z
    · exact n (List.mem_append.mpr (.inl z))
    · rcases a.gr c z with z | z
      · exact n (List.mem_append.mpr (.inr z))
      · rw [z] at h; cases h
  · rcases b.gr c hc with z | z
    · exact a.gr c z
    · exact .inr (a.fr c z)
theorem Stp.mono {X Y F F' : List Addr} {H H' : Hp} (a : Stp X F H F' H') (h : ∀ x ∈ X, x ∈ Y) : Stp Y F H F' H' :=
  ⟨a.kp.mono (fun x hx => by
    rcases List.mem_append.mp hx with z | z
    · exact List.mem_append.mpr (.inl (h x z))
    · exact List.mem_append.mpr (.inr z)), a.gr, a.fr⟩
theorem Step.more {F F' : List Addr} {H H' : Hp} (a : Step F H F' H') (X : List Addr) : Stp X F H F' H' := ⟨a.kp.mono (fun x hx => List.mem_append.mpr (.inr hx)), a.gr, a.fr⟩
theorem Stp.apart {X F F' : List Addr} {H H' : Hp} (a : Stp X F H F' H') {p : Addr} {o : HO} (h : H p = some o) (n : p ∉ F) : p ∉ F' := fun z => by
  rcases a.gr p z with z | z
  · exact n z
  · rw [z] at h; cases h
theorem Stp.all {X F F' : List Addr} {H H' : Hp} (a : Stp X F H F' H') : Step (X ++ F) H (X ++ F') H' := ⟨a.kp, fun b hb => by
  rcases List.mem_append.mp hb with z | z
  · exact .inl (List.mem_append.mpr (.inl z))
  · rcases a.gr b z with z | z
    · exact .inl (List.mem_append.mpr (.inr z))
    · exact .inr z, a.fr⟩
structure TupsAt (H : Hp) (D : Addr) (ps : List Addr) (vss : List (List V)) : Prop where
  lst : H D = some (.lst (ps.map V.ref))
  len : ps.length = vss.length
  at_ : ∀ (j : Nat) (p : Addr) (vs : List V), ps[j]? = some p → vss[j]? = some vs → H p = some (.tup vs)
section
variable {H H' : Hp}
theorem tups_snoc {D p : Addr} {ps : List Addr} {vss : List (List V)} {vs : List V} (t : TupsAt H D ps vss) (h1 : H' D = some (.lst ((ps ++ [p]).map V.ref))) (h2 : H' p = some (.tup vs)) (kp : ∀ q us, H q = some (.tup us) → H' q = some (.tup us)) : TupsAt H' D (ps ++ [p]) (vss ++ [vs]) := by
  refine ⟨h1, by simp [t.len], fun j q us e1 e2 => ?_⟩
  by_cases hj : j < ps.length
  · rw [List.getElem?_append_left hj] at e1
    rw [List.getElem?_append_left (by rw [← t.len]; exact hj)] at e2
    exact kp _ _ (t.at_ j q us e1 e2)
  · have ej : j = ps.length := by
      have := (List.getElem?_eq_some_iff.mp e1).1
      rw [List.length_append] at this
      simp at this
      omega
    subst ej
    rw [List.getElem?_append_right (Nat.le_refl _), Nat.sub_self] at e1
    rw [List.getElem?_append_right (by rw [t.len]; exact Nat.le_refl _), t.len, Nat.sub_self] at e2
    have e5 : p = q := by simpa using e1
    have e6 : vs = us := by simpa using e2
    subst e5 e6
    exact h2
theorem TupsAt.snoc {D p : Addr} {ps : List Addr} {vss : List (List V)} {vs : List V} (t : TupsAt H D ps vss) (hp : H p = none) : TupsAt (upd (upd H p (.tup vs)) D (.lst ((ps ++ [p]).map V.ref))) D (ps ++ [p]) (vss ++ [vs]) := by
  refine tups_snoc t upd_same (by rw [upd_ne (Ne.symm (ne_of_none t.lst hp)), upd_same]) (fun q us e => ?_)
  have h1 : q ≠ D := ne_of e t.lst (by intro z; cases z)
  rw [upd_ne h1, upd_ne (ne_of_none e hp)]
  exact e
theorem TupsAt.keep {D : Addr} {ps : List Addr} {vss : List (List V)} (t : TupsAt H D ps vss) (s : Same H H') : TupsAt H' D ps vss := ⟨s _ _ t.lst, t.len, fun j p vs e1 e2 => s _ _ (t.at_ j p vs e1 e2)⟩
end
end SB

set_option Elab.async false
set_option linter.all false
set_option maxRecDepth 100000
set_option maxHeartbeats 2000000
namespace SB
open PySem L2
def notTup : HO → Bool
  | .tup _ => false | .frz _ _ => false | _ => true
structure GA where
  g : Addr
  dg : Addr
  pl : Addr
  ps : List Addr
structure DA where
  d : Addr
  dd : Addr
  l : Addr
  lb : Addr
  was : List (Addr × Addr)
  gas : List GA
def DA.foot (a : DA) : List Addr := a.d :: a.l :: a.lb :: (a.was.map (·.1) ++ (a.gas.map (·.g) ++ a.gas.map (·.pl)))
structure DLe (a a' : DA) : Prop where
  d : a'.d = a.d
  gs : ∃ r, a'.gas.map (·.g) = a.gas.map (·.g) ++ r
theorem DLe.refl (a : DA) : DLe a a := ⟨rfl, [], by simp⟩
theorem DLe.trans {a b c : DA} (x : DLe a b) (y : DLe b c) : DLe a c := by
  obtain ⟨x1, r, x2⟩ := x
  obtain ⟨y1, r', y2⟩ := y
  exact ⟨y1.trans x1, r ++ r', by rw [y2, x2, List.append_assoc]⟩
def puV (x : Int × Int) : List V := [.int x.1, .int x.2]
def goA (gas : List GA) : Option (Option Nat) → Option Addr
  | some (some i) => (gas[i]?).map (·.g)
  | _ => none
structure DevAt (K : PySem.W.Frag) (H : Hp) (a : DA) (ks : List Wk) (took : Bool) (g : GH) : Prop where
  ob : H a.d = some (.ins (cDevice K) a.dd (dvF ⟨a.l, took, a.lb⟩))
  lst : H a.l = some (.lst (a.was.map fun p => V.ref p.1))
  bg : H a.lb = some (.lst ((a.gas.drop g.nb).map fun x => V.ref x.g))
  wk : ∀ (j : Nat) (x : Addr × Addr) (k : Wk), a.was[j]? = some x → ks[j]? = some k → H x.1 = some (.ins (cWork K) x.2 (woF (k.wo (goA a.gas g.cur[j]?))))
  go : ∀ (i : Nat) (x : GA) (e : Go), a.gas[i]? = some x → g.G[i]? = some e → H x.g = some (.ins (cGoing K) x.dg (ggF ⟨(e.n : Int), e.hand, x.pl⟩)) ∧ TupsAt H x.pl x.ps (e.pu.map puV)
  len : a.was.length = ks.length
  glen : a.gas.length = g.G.length
  co : GOk ks g
  nw : (a.was.map (·.1)).Nodup
  ng : (a.gas.map (·.g)).Nodup
  nl : (a.l :: a.lb :: a.gas.map (·.pl)).Nodup
def WkOk (n : Nat) (k : Wk) : Prop := 0 < k.block ∧ (∀ i, k.mark = some i → 0 ≤ i ∧ i < n) ∧ ∀ f, k.follow = some f → 0 ≤ f
def isOn (ks : List Wk) (n : Int) : Bool := match ks[n.toNat]? with
  | some k => k.on
  | none => false
def takes (ms : List Bool) (wanted took : Bool) (k : Wk) : Bool := k.on && (!k.held ms && k.may wanted took)
def devMove (ks : List Wk) (took wanted : Bool) (ms : List Bool) (ws : List Int) : List Wk × Bool × List Int × Option (Int × Str × Int × Int) :=
  match ks.findIdx? (takes ms wanted took) with
  | none => (ks, false, ws, none)
  | some j => match ks[j]? with
    | none => (ks, false, ws, none)
    | some k => ((if (k.move ws).1.on = true then ks.set j (k.move ws).1 else match (k.move ws).1.follow with
        | none => ks.set j (k.move ws).1
        | some f => (ks.set j (k.move ws).1).modify f.toNat Wk.start), true, (k.move ws).2.1, some ((j : Int), (k.move ws).2.2))
def devG (ks : List Wk) (took wanted : Bool) (ms : List Bool) (ws : List Int) (when : Int) (g : GH) : GH := match ks.findIdx? (takes ms wanted took) with
  | none => g
  | some j => match ks[j]? with
    | none => g
    | some k => if (k.move ws).1.on = true then g.move j k when ws else match (k.move ws).1.follow with
        | none => g.move j k when ws
        | some f => (g.move j k when ws).start f.toNat
theorem at_ref {was : List (Addr × Addr)} {n : Int} {p : Addr × Addr} (h0 : 0 ≤ n) (h : was[n.toNat]? = some p) : atI (was.map fun p => V.ref p.1) n = some (.ref p.1) := by
  unfold atI ixN
  have h1 : n.toNat < was.length := (List.getElem?_eq_some_iff.mp h).1
  rw [if_pos h0, List.length_map, if_pos (by omega)]
  show (was.map _)[n.toNat]? = _
  rw [List.getElem?_map, h]
  rfl
theorem fs_ne {fs fs' : List (Str × V)} {f : Str} {v : V} (h : fs.lookup f = none) (h' : fs'.lookup f = some v) : fs ≠ fs' := fun z => by rw [z, h'] at h; cases h
theorem dv_no_begin (k : Dv) : (dvF k).lookup ("begin" : Str) = none := by kernel_rfl
theorem gg_no_begin (k : Gg) : (ggF k).lookup ("begin" : Str) = none := by kernel_rfl
theorem gg_no_works (k : Gg) : (ggF k).lookup ("works" : Str) = none := by kernel_rfl
theorem ins_ne_ins {H : Hp} {p q C dx C' dx' : Addr} {fs fs' : List (Str × V)} (h : H p = some (.ins C dx fs)) (h' : H q = some (.ins C' dx' fs')) (n : fs ≠ fs') : p ≠ q := fun z => by
  rw [z, h'] at h
  exact n (HO.ins.inj (Option.some.inj h)).2.2.symm
theorem lst_ne_ins {H : Hp} {p q : Addr} {xs : List V} {C dx : Addr} {fs : List (Str × V)} (h : H p = some (.lst xs)) (h' : H q = some (.ins C dx fs)) : p ≠ q := ne_of h h' (by intro z; cases z)
theorem ins_ne_lst {H : Hp} {p q : Addr} {xs : List V} {C dx : Addr} {fs : List (Str × V)} (h' : H q = some (.ins C dx fs)) (h : H p = some (.lst xs)) : q ≠ p := ne_of h' h (by intro z; cases z)
theorem map_set_id {α β : Type} {f : α → β} {l : List α} {i : Nat} {x y : α} (h : l[i]? = some x) (e : f y = f x) : (l.set i y).map f = l.map f := by
  rw [List.map_set, e]
  exact set_same (by rw [List.getElem?_map, h]; rfl)
theorem gas_g {l : List GA} {i : Nat} {y : GA} {ps : List Addr} (h : l[i]? = some y) : (l.set i { y with ps := ps }).map (·.g) = l.map (·.g) := map_set_id h rfl
theorem gas_pl {l : List GA} {i : Nat} {y : GA} {ps : List Addr} (h : l[i]? = some y) : (l.set i { y with ps := ps }).map (·.pl) = l.map (·.pl) := map_set_id h rfl
theorem gas_ref {l : List GA} {i : Nat} {y : GA} {ps : List Addr} (h : l[i]? = some y) : (l.set i { y with ps := ps }).map (fun x => V.ref x.g) = l.map (fun x => V.ref x.g) := map_set_id h rfl
section
variable {P : Program} {w : World} {K : PySem.W.Frag} {mg : Str → Option Value} {base : Heap}
variable {H H' : Hp} {a : DA} {ks : List Wk} {took : Bool} {g : GH}
theorem mem_of_map {α : Type} {f : α → Addr} {l : List α} {i : Nat} {x : α} (h : l[i]? = some x) : f x ∈ l.map f := List.mem_map.mpr ⟨x, List.mem_of_getElem? h, rfl⟩
theorem DA.inW {j : Nat} {x : Addr × Addr} (h : a.was[j]? = some x) : x.1 ∈ a.foot := by
  unfold DA.foot
  simp only [List.mem_cons, List.mem_append]
  exact .inr (.inr (.inr (.inl (mem_of_map (f := fun p : Addr × Addr => p.1) h))))
theorem DA.inG {j : Nat} {x : GA} (h : a.gas[j]? = some x) : x.g ∈ a.foot := by
  unfold DA.foot
  simp only [List.mem_cons, List.mem_append]
  exact .inr (.inr (.inr (.inr (.inl (mem_of_map (f := fun p : GA => p.g) h)))))
theorem DA.inP {j : Nat} {x : GA} (h : a.gas[j]? = some x) : x.pl ∈ a.foot := by
  unfold DA.foot
  simp only [List.mem_cons, List.mem_append]
  exact .inr (.inr (.inr (.inr (.inr (mem_of_map (f := fun p : GA => p.pl) h)))))
theorem DA.inD : a.d ∈ a.foot := by unfold DA.foot; simp
theorem DA.inL : a.l ∈ a.foot := by unfold DA.foot; simp
theorem DA.inB : a.lb ∈ a.foot := by unfold DA.foot; simp
theorem DevAt.get (D : DevAt K H a ks took g) {j : Nat} {k : Wk} (h : ks[j]? = some k) : ∃ x, a.was[j]? = some x ∧ H x.1 = some (.ins (cWork K) x.2 (woF (k.wo (goA a.gas g.cur[j]?)))) := by
  have h1 : j < ks.length := (List.getElem?_eq_some_iff.mp h).1
  have h2 : j < a.was.length := by rw [D.len]; exact h1
  exact ⟨a.was[j], List.getElem?_eq_getElem h2, D.wk j _ k (List.getElem?_eq_getElem h2) h⟩
theorem DevAt.getG (D : DevAt K H a ks took g) {i : Nat} {e : Go} (h : g.G[i]? = some e) : ∃ x, a.gas[i]? = some x ∧ H x.g = some (.ins (cGoing K) x.dg (ggF ⟨(e.n : Int), e.hand, x.pl⟩)) ∧ TupsAt H x.pl x.ps (e.pu.map puV) := by
  have h1 : i < g.G.length := (List.getElem?_eq_some_iff.mp h).1
  have h2 : i < a.gas.length := by rw [D.glen]; exact h1
  exact ⟨a.gas[i], List.getElem?_eq_getElem h2, D.go i _ e (List.getElem?_eq_getElem h2) h⟩
theorem DevAt.getW (D : DevAt K H a ks took g) {j : Nat} {x : Addr × Addr} (h : a.was[j]? = some x) : ∃ k, ks[j]? = some k ∧ H x.1 = some (.ins (cWork K) x.2 (woF (k.wo (goA a.gas g.cur[j]?)))) := by
  have h2 : j < ks.length := by rw [← D.len]; exact (List.getElem?_eq_some_iff.mp h).1
  exact ⟨_, List.getElem?_eq_getElem h2, D.wk j _ _ h (List.getElem?_eq_getElem h2)⟩
theorem DevAt.getA (D : DevAt K H a ks took g) {i : Nat} {x : GA} (h : a.gas[i]? = some x) : ∃ e, g.G[i]? = some e ∧ H x.g = some (.ins (cGoing K) x.dg (ggF ⟨(e.n : Int), e.hand, x.pl⟩)) ∧ TupsAt H x.pl x.ps (e.pu.map puV) := by
  have h2 : i < g.G.length := by rw [← D.glen]; exact (List.getElem?_eq_some_iff.mp h).1
  exact ⟨_, List.getElem?_eq_getElem h2, D.go i _ _ h (List.getElem?_eq_getElem h2)⟩
theorem DevAt.inF (D : DevAt K H a ks took g) : ∀ b ∈ a.foot, ∃ u, H b = some u ∧ notTup u = true := fun b hb => by
  unfold DA.foot at hb
  simp only [List.mem_cons, List.mem_append] at hb
  rcases hb with rfl | rfl | rfl | hb | hb | hb
  · exact ⟨_, D.ob, rfl⟩
  · exact ⟨_, D.lst, rfl⟩
  · exact ⟨_, D.bg, rfl⟩
  · obtain ⟨pr, hpr, e⟩ := List.mem_map.mp hb
    obtain ⟨i, hi, ei⟩ := List.mem_iff_getElem.mp hpr
    obtain ⟨k, _, h⟩ := D.getW (List.getElem?_eq_getElem hi)
    rw [ei, e] at h
    exact ⟨_, h, rfl⟩
  · obtain ⟨pr, hpr, e⟩ := List.mem_map.mp hb
    obtain ⟨i, hi, ei⟩ := List.mem_iff_getElem.mp hpr
    obtain ⟨k, _, h, _⟩ := D.getA (List.getElem?_eq_getElem hi)
    rw [ei, e] at h
    exact ⟨_, h, rfl⟩
  · obtain ⟨pr, hpr, e⟩ := List.mem_map.mp hb
    obtain ⟨i, hi, ei⟩ := List.mem_iff_getElem.mp hpr
    obtain ⟨k, _, _, h⟩ := D.getA (List.getElem?_eq_getElem hi)
    have h := h.lst
    rw [ei, e] at h
    exact ⟨_, h, rfl⟩
theorem TupsAt.stay {D : Addr} {ps : List Addr} {vss : List (List V)} {as : List Addr} (t : TupsAt H D ps vss) (k : Kept as H H') (h : D ∉ as) (hn : ∀ b ∈ as, ∃ u, H b = some u ∧ notTup u = true) : TupsAt H' D ps vss :=
  ⟨k _ _ t.lst h, t.len, fun j p vs e1 e2 => k _ _ (t.at_ j p vs e1 e2) fun z => by
    obtain ⟨u, hu, hu2⟩ := hn p z
    rw [t.at_ j p vs e1 e2] at hu
    cases hu
    cases hu2⟩
theorem DevAt.stay (D : DevAt K H a ks took g) {as : List Addr} (k : Kept as H H') (h : ∀ b ∈ a.foot, b ∉ as) (hn : ∀ b ∈ as, ∃ u, H b = some u ∧ notTup u = true) : DevAt K H' a ks took g :=
  ⟨k _ _ D.ob (h _ DA.inD), k _ _ D.lst (h _ DA.inL), k _ _ D.bg (h _ DA.inB), fun j x y e1 e2 => k _ _ (D.wk j x y e1 e2) (h _ (DA.inW e1)), fun i x e e1 e2 => ⟨k _ _ (D.go i x e e1 e2).1 (h _ (DA.inG e1)), (D.go i x e e1 e2).2.stay k (h _ (DA.inP e1)) hn⟩, D.len, D.glen, D.co, D.nw, D.ng, D.nl⟩
theorem DevAt.same (D : DevAt K H a ks took g) (s : Same H H') : DevAt K H' a ks took g := D.stay (Kept.same (as := []) s) (by simp) (by simp)
theorem DevAt.upd (D : DevAt K H a ks took g) {p : Addr} {u o : HO} (hp : H p = some u) (hu : notTup u = true) (h : p ∉ a.foot) : DevAt K (L2.upd H p o) a ks took g :=
  D.stay (as := [p]) ((Kept.refl _ H).put (by simp)) (fun b hb z => h (by
    have e : b = p := by simpa using z
    rw [← e]
    exact hb)) (fun b hb => by
    have e : b = p := by simpa using hb
    rw [e]
    exact ⟨_, hp, hu⟩)
theorem nd_at {α : Type} {f : α → Addr} {l : List α} (nd : (l.map f).Nodup) {i j : Nat} {x y : α} (h1 : l[i]? = some x) (h2 : l[j]? = some y) (e : f x = f y) : i = j :=
  nd_ix nd (by rw [List.getElem?_map, h1]; rfl) (by rw [List.getElem?_map, h2, e]; rfl)
theorem DevAt.dW (D : DevAt K H a ks took g) {j : Nat} {x : Addr × Addr} (h : a.was[j]? = some x) : a.d ≠ x.1 := by
  obtain ⟨k, _, e⟩ := D.getW h
  exact ins_ne_ins D.ob e (fs_ne (dv_no_begin _) (wo_begin _))
theorem DevAt.dG (D : DevAt K H a ks took g) {j : Nat} {x : GA} (h : a.gas[j]? = some x) : a.d ≠ x.g := by
  obtain ⟨k, _, e, _⟩ := D.getA h
  exact Ne.symm (ins_ne_ins e D.ob (fs_ne (gg_no_works _) (dv_works _)))
theorem DevAt.wG (D : DevAt K H a ks took g) {i j : Nat} {x : GA} {y : Addr × Addr} (h : a.gas[i]? = some x) (h' : a.was[j]? = some y) : x.g ≠ y.1 := by
  obtain ⟨_, _, e, _⟩ := D.getA h
  obtain ⟨_, _, e'⟩ := D.getW h'
  exact ins_ne_ins e e' (fs_ne (gg_no_begin _) (wo_begin _))
theorem DevAt.lbne (D : DevAt K H a ks took g) : a.lb ≠ a.l := fun z => by
  have := (List.nodup_cons.mp D.nl).1
  rw [← z] at this
  exact this List.mem_cons_self
theorem DevAt.plL (D : DevAt K H a ks took g) {j : Nat} {x : GA} (h : a.gas[j]? = some x) : x.pl ≠ a.l := fun z => (List.nodup_cons.mp D.nl).1 (List.mem_cons_of_mem _ (by rw [← z]; exact mem_of_map (f := fun p : GA => p.pl) h))
theorem DevAt.plB (D : DevAt K H a ks took g) {j : Nat} {x : GA} (h : a.gas[j]? = some x) : x.pl ≠ a.lb := fun z => (List.nodup_cons.mp (List.nodup_cons.mp D.nl).2).1 (by rw [← z]; exact mem_of_map (f := fun p : GA => p.pl) h)
theorem DevAt.npl (D : DevAt K H a ks took g) : (a.gas.map (·.pl)).Nodup := (List.nodup_cons.mp (List.nodup_cons.mp D.nl).2).2
theorem DevAt.setTook (D : DevAt K H a ks took g) {b : Bool} : DevAt K (L2.upd H a.d (.ins (cDevice K) a.dd (dvF ⟨a.l, b, a.lb⟩))) a ks b g := by
  have hl : a.l ≠ a.d := lst_ne_ins D.lst D.ob
  have hb : a.lb ≠ a.d := lst_ne_ins D.bg D.ob
  refine ⟨upd_same, by rw [upd_ne hl]; exact D.lst, by rw [upd_ne hb]; exact D.bg, fun j x k e1 e2 => ?_, fun i x e e1 e2 => ⟨?_, ?_⟩, D.len, D.glen, D.co, D.nw, D.ng, D.nl⟩
  · rw [upd_ne (Ne.symm (D.dW e1))]
    exact D.wk j x k e1 e2
  · rw [upd_ne (Ne.symm (D.dG e1))]
    exact (D.go i x e e1 e2).1
  · have t := (D.go i x e e1 e2).2
    refine t.stay (as := [a.d]) ((Kept.refl _ H).put (by simp)) (by simpa using lst_ne_ins t.lst D.ob) (fun b hb => ?_)
    have e : b = a.d := by simpa using hb
    rw [e]
    exact ⟨_, D.ob, rfl⟩
theorem DevAt.woken (D : DevAt K H a ks took g) {b : Addr} (hb : H b = none) : DevAt K (L2.upd (L2.upd H b (.lst [])) a.d (.ins (cDevice K) a.dd (dvF ⟨a.l, took, b⟩))) { a with lb := b } ks took { g with nb := g.G.length } := by
  have D1 : DevAt K (L2.upd H b (.lst [])) a ks took g := D.same (Same.new (Same.refl H) hb)
  have hl : a.l ≠ a.d := lst_ne_ins D.lst D.ob
  have bd : b ≠ a.d := Ne.symm (ne_of_none D.ob hb)
  have D2 : DevAt K (L2.upd (L2.upd H b (.lst [])) a.d (.ins (cDevice K) a.dd (dvF ⟨a.l, took, a.lb⟩))) a ks took g := D1.setTook
  have rd : ∀ {p : Addr} {o : HO}, p ≠ a.d → L2.upd H b (.lst []) p = some o → L2.upd (L2.upd H b (.lst [])) a.d (.ins (cDevice K) a.dd (dvF ⟨a.l, took, b⟩)) p = some o := fun hp h => by rw [upd_ne hp]; exact h
  have ed : a.gas.drop g.G.length = [] := by rw [← D.glen]; exact List.drop_length
  refine ⟨upd_same, rd hl D1.lst, ?_, fun j x k e1 e2 => rd (Ne.symm (D.dW e1)) (D1.wk j x k e1 e2), fun i x e e1 e2 => ⟨rd (Ne.symm (D.dG e1)) (D1.go i x e e1 e2).1, ?_⟩, D.len, D.glen, ⟨D.co.clen, D.co.on, D.co.off, D.co.mb, Nat.le_refl _⟩, D.nw, D.ng, ?_⟩
  · show L2.upd (L2.upd H b (.lst [])) a.d _ b = some (.lst ((a.gas.drop g.G.length).map _))
    rw [upd_ne bd, upd_same, ed]
    rfl
  · have t := (D1.go i x e e1 e2).2
    refine t.stay (as := [a.d]) ((Kept.refl _ _).put (by simp)) (by simpa using lst_ne_ins t.lst D1.ob) (fun b hb => ?_)
    have e : b = a.d := by simpa using hb
    rw [e]
    exact ⟨_, D1.ob, rfl⟩
  · have n1 := List.nodup_cons.mp D.nl
    have n2 := List.nodup_cons.mp n1.2
    refine List.nodup_cons.mpr ⟨fun z => ?_, List.nodup_cons.mpr ⟨fun z => ?_, n2.2⟩⟩
    · rcases List.mem_cons.mp z with z | z
      · exact (ne_of_none D.lst hb) z
      · exact n1.1 (List.mem_cons_of_mem _ z)
    · have z' : b ∈ a.gas.map (·.pl) := z
      obtain ⟨pr, hpr, e⟩ := List.mem_map.mp z'
      obtain ⟨i, hi, ei⟩ := List.mem_iff_getElem.mp hpr
      obtain ⟨_, _, _, h⟩ := D.getA (List.getElem?_eq_getElem hi)
      have h := h.lst
      rw [ei, e, hb] at h
      cases h
theorem goA_app {gas : List GA} {x : GA} {o : Option (Option Nat)} (h : ∀ i, o = some (some i) → i < gas.length) : goA (gas ++ [x]) o = goA gas o := by
  cases o with
  | none => rfl
  | some o =>
    cases o with
    | none => rfl
    | some i =>
      show ((gas ++ [x])[i]?).map _ = (gas[i]?).map _
      rw [List.getElem?_append_left (h i rfl)]
theorem goA_set {gas : List GA} {x y : GA} {i : Nat} {o : Option (Option Nat)} (h : gas[i]? = some x) (e : y.g = x.g) : goA (gas.set i y) o = goA gas o := by
  cases o with
  | none => rfl
  | some o =>
    cases o with
    | none => rfl
    | some j =>
      show ((gas.set i y)[j]?).map _ = (gas[j]?).map _
      by_cases z : j = i
      · subst z
        rw [gset_self h, h]
        show some y.g = some x.g
        rw [e]
      · rw [gset_ne z]
theorem cur_lt (D : DevAt K H a ks took g) {j i : Nat} {k : Wk} (h : ks[j]? = some k) (hc : g.cur[j]? = some (some i)) : i < a.gas.length := by
  obtain ⟨_, e, he, _⟩ := D.co.on j k i h hc
  rw [D.glen]
  exact (List.getElem?_eq_some_iff.mp he).1
theorem DevAt.started (D : DevAt K H a ks took g) {n : Nat} {x : Addr × Addr} {k : Wk} {p dp q : Addr} (hc : g.cur[n]? = some none) (hx : a.was[n]? = some x) (hk : ks[n]? = some k) (np : H p = none) (nq : H q = none) (pq : p ≠ q)
    (h1 : H' p = some (.ins (cGoing K) dp (ggF ⟨(n : Int), none, q⟩))) (h2 : H' q = some (.lst [])) (h3 : H' x.1 = some (.ins (cWork K) x.2 (woF (k.wo (some p))))) (h4 : H' a.lb = some (.lst (((a.gas.drop g.nb).map fun x => V.ref x.g) ++ [.ref p])))
    (kp : Kept [x.1, a.lb] H H') : DevAt K H' { a with gas := a.gas ++ [⟨p, dp, q, []⟩] } (ks.modify n Wk.start) took (g.start n) := by
  have co := D.co.start n
  have hx2 := D.wk n x k hx hk
  have nt : ∀ b ∈ [x.1, a.lb], ∃ u, H b = some u ∧ notTup u = true := fun b hb => by
    have e : b = x.1 ∨ b = a.lb := by simpa using hb
    rcases e with rfl | rfl
    · exact ⟨_, hx2, rfl⟩
    · exact ⟨_, D.bg, rfl⟩
  have kk : ∀ {b : Addr} {o : HO}, H b = some o → b ≠ x.1 → b ≠ a.lb → H' b = some o := fun h n1 n2 => kp _ _ h (by simp [n1, n2])
  rw [modify_set hk]
  rw [modify_set hk] at co
  rw [start_off hc] at co ⊢
  have ek : k.start.wo (some p) = k.wo (some p) := by
    unfold Wk.start
    split <;> rfl
  have ld : (a.gas ++ [⟨p, dp, q, []⟩] : List GA).drop g.nb = a.gas.drop g.nb ++ [⟨p, dp, q, []⟩] := by
    rw [List.drop_append_of_le_length (by rw [D.glen]; exact D.co.nbl)]
  refine ⟨kk D.ob (D.dW hx) (ins_ne_lst D.ob D.bg), kk D.lst (lst_ne_ins D.lst hx2) (Ne.symm D.lbne), ?_, fun j y k' e1 e2 => ?_, fun i y e e1 e2 => ?_, by show a.was.length = _; rw [List.length_set]; exact D.len, by simp [D.glen], co, D.nw, ?_, ?_⟩
  · show H' a.lb = some (.lst (((a.gas ++ [(⟨p, dp, q, []⟩ : GA)]).drop g.nb).map fun x => V.ref x.g))
    rw [ld, List.map_append]
    exact h4
  · show H' y.1 = some (.ins (cWork K) y.2 (woF (k'.wo (goA (a.gas ++ [⟨p, dp, q, []⟩]) (g.cur.set n (some g.G.length))[j]?))))
    by_cases hj : j = n
    · subst hj
      have e1' : a.was[j]? = some y := e1
      rw [hx] at e1'
      cases e1'
      rw [gset_self hk] at e2
      cases e2
      rw [gset_self hc, ← D.glen]
      show H' x.1 = some (.ins (cWork K) x.2 (woF (k.start.wo (((a.gas ++ [⟨p, dp, q, []⟩])[a.gas.length]?).map (·.g)))))
      rw [gend]
      show H' x.1 = some (.ins (cWork K) x.2 (woF (k.start.wo (some p))))
      rw [ek]
      exact h3
    · rw [gset_ne hj] at e2
      rw [gset_ne hj, goA_app (fun i hi => cur_lt D e2 hi)]
      have e3 := D.wk j y k' e1 e2
      exact kk e3 (fun z => hj (nd_at (f := fun p : Addr × Addr => p.1) D.nw e1 hx z)) (ins_ne_lst e3 D.bg)
  · by_cases hi : i < a.gas.length
    · have e1' : a.gas[i]? = some y := by
        have e1'' : (a.gas ++ [(⟨p, dp, q, []⟩ : GA)])[i]? = some y := e1
        rw [List.getElem?_append_left hi] at e1''
        exact e1''
      have e2' : g.G[i]? = some e := by
        have e2'' : (g.G ++ [(⟨n, none, []⟩ : Go)])[i]? = some e := e2
        rw [List.getElem?_append_left (by rw [← D.glen]; exact hi)] at e2''
        exact e2''
      obtain ⟨o1, o2⟩ := D.go i y e e1' e2'
      exact ⟨kk o1 (D.wG e1' hx) (ins_ne_lst o1 D.bg), o2.stay kp (by simp [lst_ne_ins o2.lst hx2, D.plB e1']) nt⟩
    · have e1'' : (a.gas ++ [(⟨p, dp, q, []⟩ : GA)])[i]? = some y := e1
      have ei : i = a.gas.length := by
        have := (List.getElem?_eq_some_iff.mp e1'').1
        rw [List.length_append] at this
        simp at this
        omega
      subst ei
      rw [gend] at e1''
      cases e1''
      have e2'' : (g.G ++ [(⟨n, none, []⟩ : Go)])[a.gas.length]? = some e := e2
      rw [D.glen, gend] at e2''
      cases e2''
      exact ⟨h1, h2, rfl, fun j t vs z => by simp at z⟩
  · show ((a.gas ++ [(⟨p, dp, q, []⟩ : GA)]).map (·.g)).Nodup
    rw [List.map_append]
    refine List.nodup_append.mpr ⟨D.ng, by simp, fun u hu b hb z => ?_⟩
    have eb : b = p := by simpa using hb
    subst eb
    subst z
    obtain ⟨pr, hpr, e⟩ := List.mem_map.mp hu
    obtain ⟨i, hi, ei⟩ := List.mem_iff_getElem.mp hpr
    obtain ⟨_, _, h, _⟩ := D.getA (List.getElem?_eq_getElem hi)
    rw [ei, e, np] at h
    cases h
  · have e : (a.l :: a.lb :: (a.gas ++ [(⟨p, dp, q, []⟩ : GA)]).map (·.pl)) = (a.l :: a.lb :: a.gas.map (·.pl)) ++ [q] := by simp
    show (a.l :: a.lb :: (a.gas ++ [(⟨p, dp, q, []⟩ : GA)]).map (·.pl)).Nodup
    rw [e]
    refine List.nodup_append.mpr ⟨D.nl, by simp, fun u hu b hb z => ?_⟩
    have eb : b = q := by simpa using hb
    subst eb
    subst z
    simp only [List.mem_cons] at hu
    rcases hu with rfl | rfl | hu
    · rw [D.lst] at nq; cases nq
    · rw [D.bg] at nq; cases nq
    · obtain ⟨pr, hpr, e⟩ := List.mem_map.mp hu
      obtain ⟨i, hi, ei⟩ := List.mem_iff_getElem.mp hpr
      obtain ⟨_, _, _, h⟩ := D.getA (List.getElem?_eq_getElem hi)
      have h := h.lst
      rw [ei, e, nq] at h
      cases h
theorem DevAt.onAt (D : DevAt K H a ks took g) {j : Nat} {k : Wk} (hk : ks[j]? = some k) (ho : k.on = true) : ∃ (i : Nat) (e : Go) (x : Addr × Addr) (y : GA), g.cur[j]? = some (some i) ∧ g.G[i]? = some e ∧ a.was[j]? = some x ∧ a.gas[i]? = some y ∧ e.n = j ∧ e.hand = k.hand ∧ (e.pu.length : Int) = k.laid ∧ k.laid < k.many ∧
    H x.1 = some (.ins (cWork K) x.2 (woF (k.wo (some y.g)))) ∧ H y.g = some (.ins (cGoing K) y.dg (ggF ⟨(j : Int), k.hand, y.pl⟩)) ∧ TupsAt H y.pl y.ps (e.pu.map puV) := by
  have hj : j < g.cur.length := by rw [D.co.clen]; exact (List.getElem?_eq_some_iff.mp hk).1
  have hc := List.getElem?_eq_getElem hj
  cases e : g.cur[j] with
  | none =>
    rw [e] at hc
    rw [(D.co.off j k hk hc).1] at ho
    cases ho
  | some i =>
    rw [e] at hc
    obtain ⟨_, e, e1, e2, e3, e4, e5⟩ := D.co.on j k i hk hc
    obtain ⟨x, x1, x2⟩ := D.get hk
    obtain ⟨y, y1, y2, y3⟩ := D.getG e1
    rw [hc] at x2
    have eg : goA a.gas (some (some i)) = some y.g := by
      show (a.gas[i]?).map _ = _
      rw [y1]
      rfl
    rw [eg] at x2
    rw [e2, e3] at y2
    exact ⟨i, e, x, y, hc, e1, x1, y1, e2, e3, e4, e5, x2, y2, y3⟩
theorem DevAt.fetched (D : DevAt K H a ks took g) {j i : Nat} {k : Wk} {e : Go} {y : GA} {p : Addr} {ws : List Int} {when : Int} (hk : ks[j]? = some k) (hn : k.hand = none) (hc : g.cur[j]? = some (some i)) (he : g.G[i]? = some e) (en : e.n = j) (hy : a.gas[i]? = some y)
    (f : FetchPost K H H' p y.g y.dg y.pl (j : Int) k ws) : DevAt K H' a (ks.set j (k.move ws).1) took (g.move j k when ws) := by
  have co := D.co.move (ws := ws) (when := when) hk hc
  obtain ⟨f1, f2, f3, f4⟩ := f
  obtain ⟨hy2, hy3⟩ := D.go i y e hy he
  have nt : ∀ b ∈ [y.g], ∃ u, H b = some u ∧ notTup u = true := fun b hb => by
    have e : b = y.g := by simpa using hb
    rw [e]
    exact ⟨_, hy2, rfl⟩
  have kk : ∀ {b : Addr} {o : HO}, H b = some o → b ≠ y.g → H' b = some o := fun h n1 => f4 _ _ h (by simp [n1])
  rw [move_eq hc he] at co ⊢
  unfold Wk.move at co ⊢
  rw [hn] at co ⊢
  dsimp only at co ⊢
  refine ⟨kk D.ob (D.dG hy), kk D.lst (lst_ne_ins D.lst hy2), kk D.bg (lst_ne_ins D.bg hy2), fun j' x k' e1 e2 => ?_, fun i' x e' e1 e2 => ?_, by rw [List.length_set]; exact D.len, by rw [List.length_set]; exact D.glen, co, D.nw, D.ng, D.nl⟩
  · have key : ∀ k0, ks[j']? = some k0 → k0.wo (goA a.gas g.cur[j']?) = k'.wo (goA a.gas g.cur[j']?) → H' x.1 = some (.ins (cWork K) x.2 (woF (k'.wo (goA a.gas g.cur[j']?)))) := fun k0 h0 hw => by
      rw [← hw]
      exact kk (D.wk j' x k0 e1 h0) (Ne.symm (D.wG hy e1))
    by_cases hj : j' = j
    · subst hj
      rw [gset_self hk] at e2
      cases e2
      exact key k hk rfl
    · rw [gset_ne hj] at e2
      exact key k' e2 rfl
  · by_cases hi : i' = i
    · subst hi
      rw [gset_self he] at e2
      cases e2
      rw [hy] at e1
      cases e1
      exact ⟨by rw [f3, en], hy3.stay f4 (by simpa using lst_ne_ins hy3.lst hy2) nt⟩
    · rw [gset_ne hi] at e2
      obtain ⟨o1, o2⟩ := D.go i' x e' e1 e2
      exact ⟨kk o1 (fun z => hi (nd_at (f := fun p : GA => p.g) D.ng e1 hy z)), o2.stay f4 (by simpa using lst_ne_ins o2.lst hy2) nt⟩
theorem DevAt.laid (D : DevAt K H a ks took g) {j i : Nat} {k : Wk} {e : Go} {x : Addr × Addr} {y : GA} {p t l : Addr} {ws : List Int} {when v : Int} {os : List V} (hk : ks[j]? = some k) (hn : k.hand = some v) (hc : g.cur[j]? = some (some i)) (he : g.G[i]? = some e) (en : e.n = j) (hx : a.was[j]? = some x) (hy : a.gas[i]? = some y)
    (hl : H l = some (.lst os)) (nl : l ∉ a.foot) (f : LayPost K H H' p t x.1 x.2 y.g y.dg y.pl l (j : Int) when k (y.ps.map V.ref) ws v) :
    DevAt K H' { a with gas := a.gas.set i { y with ps := y.ps ++ [t] } } (ks.set j (k.move ws).1) took (g.move j k when ws) := by
  have co := D.co.move (ws := ws) (when := when) hk hc
  obtain ⟨f1, f2, f3, f4, f5, f6, f7, f8, f9⟩ := f
  obtain ⟨hy2, hy3⟩ := D.go i y e hy he
  have hx2 := D.wk j x k hx hk
  have nt : ∀ b ∈ [x.1, y.g, y.pl, l], ∃ u, H b = some u ∧ notTup u = true := fun b hb => by
    simp only [List.mem_cons] at hb
    rcases hb with rfl | rfl | rfl | rfl | hb
    · exact ⟨_, hx2, rfl⟩
    · exact ⟨_, hy2, rfl⟩
    · exact ⟨_, hy3.lst, rfl⟩
    · exact ⟨_, hl, rfl⟩
    · cases hb
  have kk : ∀ {b : Addr} {o : HO}, H b = some o → b ∈ a.foot → b ≠ x.1 → b ≠ y.g → b ≠ y.pl → H' b = some o := fun h hf n1 n2 n3 => f9 _ _ h (by
    have n4 : _ ≠ l := fun z => nl (by rw [← z]; exact hf)
    simp [n1, n2, n3, n4])
  rw [move_eq hc he] at co ⊢
  unfold Wk.move at co ⊢
  rw [hn] at co ⊢
  dsimp only at co ⊢
  have eg : ∀ o, goA (a.gas.set i { y with ps := y.ps ++ [t] }) o = goA a.gas o := fun o => goA_set hy rfl
  refine ⟨kk D.ob DA.inD (D.dW hx) (D.dG hy) (ins_ne_lst D.ob hy3.lst), kk D.lst DA.inL (lst_ne_ins D.lst hx2) (lst_ne_ins D.lst hy2) (Ne.symm (D.plL hy)), ?_, fun j' z k' e1 e2 => ?_, fun i' z e' e1 e2 => ?_, by rw [List.length_set]; exact D.len, by rw [List.length_set, List.length_set]; exact D.glen, co, D.nw, ?_, ?_⟩
  · have e5 : ((a.gas.set i { y with ps := y.ps ++ [t] }).drop g.nb).map (fun x => V.ref x.g) = (a.gas.drop g.nb).map (fun x => V.ref x.g) := by
      rw [List.map_drop, List.map_drop, gas_ref hy]
    show H' a.lb = some (.lst (((a.gas.set i { y with ps := y.ps ++ [t] }).drop g.nb).map fun x => V.ref x.g))
    rw [e5]
    exact kk D.bg DA.inB (lst_ne_ins D.bg hx2) (lst_ne_ins D.bg hy2) (Ne.symm (D.plB hy))
  · show H' z.1 = some (.ins (cWork K) z.2 (woF (k'.wo (goA (a.gas.set i { y with ps := y.ps ++ [t] }) (if k.laid + 1 < k.many then g.cur else g.cur.set j none)[j']?))))
    rw [eg]
    by_cases hj : j' = j
    · subst hj
      rw [gset_self hk] at e2
      cases e2
      rw [hx] at e1
      cases e1
      have ego : goA a.gas (if k.laid + 1 < k.many then g.cur else g.cur.set j' none)[j']? = (if k.laid + 1 < k.many then some y.g else none) := by
        by_cases c : k.laid + 1 < k.many
        · rw [if_pos c, if_pos c, hc]
          show (a.gas[i]?).map _ = _
          rw [hy]
          rfl
        · rw [if_neg c, if_neg c, gset_self hc]
          rfl
      rw [ego]
      exact f7
    · rw [gset_ne hj] at e2
      have ec : (if k.laid + 1 < k.many then g.cur else g.cur.set j none)[j']? = g.cur[j']? := by
        by_cases c : k.laid + 1 < k.many
        · rw [if_pos c]
        · rw [if_neg c, gset_ne hj]
      rw [ec]
      have e3 := D.wk j' z k' e1 e2
      exact kk e3 (DA.inW e1) (fun u => hj (nd_at (f := fun p : Addr × Addr => p.1) D.nw e1 hx u)) (Ne.symm (D.wG hy e1)) (ins_ne_lst e3 hy3.lst)
  · by_cases hi : i' = i
    · subst hi
      rw [gset_self he] at e2
      cases e2
      have e1' : (a.gas.set i' { y with ps := y.ps ++ [t] })[i']? = some z := e1
      rw [gset_self hy] at e1'
      cases e1'
      refine ⟨by show H' y.g = some (.ins (cGoing K) y.dg (ggF ⟨(e.n : Int), none, y.pl⟩)); rw [f6, en], ?_⟩
      show TupsAt H' y.pl (y.ps ++ [t]) ((e.pu ++ [(when, (k.goal + k.laid) % ws.length)]).map puV)
      rw [List.map_append]
      refine tups_snoc hy3 (by rw [f5, List.map_append]; rfl) f4 (fun u us hu => f9 _ _ hu fun hb => ?_)
      obtain ⟨o, ho, ho2⟩ := nt u hb
      rw [hu] at ho
      cases ho
      cases ho2
    · rw [gset_ne hi] at e2
      have e1' : (a.gas.set i { y with ps := y.ps ++ [t] })[i']? = some z := e1
      rw [gset_ne hi] at e1'
      obtain ⟨o1, o2⟩ := D.go i' z e' e1' e2
      have npl : z.pl ≠ y.pl := fun u => hi (nd_at (f := fun p : GA => p.pl) D.npl e1' hy u)
      have nll : z.pl ≠ l := fun u => nl (by rw [← u]; exact DA.inP e1')
      exact ⟨kk o1 (DA.inG e1') (D.wG e1' hx) (fun u => hi (nd_at (f := fun p : GA => p.g) D.ng e1' hy u)) (ins_ne_lst o1 hy3.lst), o2.stay f9 (by simp [lst_ne_ins o2.lst hx2, lst_ne_ins o2.lst hy2, npl, nll]) nt⟩
  · show ((a.gas.set i { y with ps := y.ps ++ [t] }).map (·.g)).Nodup
    rw [gas_g hy]
    exact D.ng
  · show (a.l :: a.lb :: (a.gas.set i { y with ps := y.ps ++ [t] }).map (·.pl)).Nodup
    rw [gas_pl hy]
    exact D.nl
theorem foot_set {i : Nat} {y : GA} {t : Addr} (hy : a.gas[i]? = some y) : ({ a with gas := a.gas.set i { y with ps := y.ps ++ [t] } } : DA).foot = a.foot := by
  unfold DA.foot
  show a.d :: a.l :: a.lb :: (a.was.map (·.1) ++ ((a.gas.set i { y with ps := y.ps ++ [t] }).map (·.g) ++ (a.gas.set i { y with ps := y.ps ++ [t] }).map (·.pl))) = _
  rw [gas_g hy, gas_pl hy]
theorem foot_new {x : GA} {b : Addr} (h : b ∈ ({ a with gas := a.gas ++ [x] } : DA).foot) : b ∈ a.foot ∨ b = x.g ∨ b = x.pl := by
  unfold DA.foot at h ⊢
  simp only [List.mem_cons, List.mem_append, List.map_append, List.map_cons, List.map_nil, List.not_mem_nil, or_false] at h ⊢
  rcases h with h | h | h | h | (h | h) | (h | h)
  · exact .inl (.inl h)
  · exact .inl (.inr (.inl h))
  · exact .inl (.inr (.inr (.inl h)))
  · exact .inl (.inr (.inr (.inr (.inl h))))
  · exact .inl (.inr (.inr (.inr (.inr (.inl h)))))
  · exact .inr (.inl h)
  · exact .inl (.inr (.inr (.inr (.inr (.inr h)))))
  · exact .inr (.inr h)
end
end SB

set_option Elab.async false
set_option linter.all false
set_option maxRecDepth 100000
set_option maxHeartbeats 2000000
namespace SB
open PySem L2
section
variable {P : Program} {w : World} {K : PySem.W.Frag} {mg : Str → Option Value} {base : Heap}
variable {H H' : Hp} {a : DA} {ks : List Wk} {took : Bool} {g : GH}
theorem DevAt.onV (D : DevAt K H a ks took g) {j : Nat} {k : Wk} (hk : ks[j]? = some k) : (!decide (oA (goA a.gas g.cur[j]?) = V.non)) = k.on := by
  have hj : j < g.cur.length := by rw [D.co.clen]; exact (List.getElem?_eq_some_iff.mp hk).1
  have hc := List.getElem?_eq_getElem hj
  cases e : g.cur[j] with
  | none =>
    rw [e] at hc
    rw [hc, (D.co.off j k hk hc).1]
    rfl
  | some i =>
    rw [e] at hc
    obtain ⟨o, e, e1, _⟩ := D.co.on j k i hk hc
    obtain ⟨y, y1, _⟩ := D.getG e1
    have eg : goA a.gas (some (some i)) = some y.g := by
      show (a.gas[i]?).map _ = _
      rw [y1]
      rfl
    rw [hc, eg, o]
    rfl
def sp_Device_is_on (K : PySem.W.Frag) : Sp := fun vs H Q _ => ∃ (a : DA) (ks : List Wk) (took : Bool) (g : GH) (n : Int), vs = [.ref a.d, .int n] ∧ DevAt K H a ks took g ∧ 0 ≤ n ∧ Q (.bl (isOn ks n)) H
theorem ok_Device_is_on (T : T w K mg) : FnR P w K mg base CX0 1 (He.ma K (He.ga K "Device") "is_on") (sp_Device_is_on K) := by
  obtain ⟨fd, F⟩ := T.f_Device_is_on
  refine F.r sc_Device_is_on (fun _ _ _ _ _ _ us hl => match us, hl with | [_, _], _ => rfl) (fun vs H Q E h => ?_) (fun cdv A outer s H vs Q E hr h => ?_)
  · obtain ⟨_, _, _, _, _, rfl, _⟩ := h
    rfl
  · obtain ⟨a, ks, took, g, n, rfl, D, hn, q⟩ := h
    refine ⟨_, (pss_one (ps_ret (pe_and (pe_cmpR op_lt (pv 1) (pe_callB call_len_seq rfl T.u_len PySem.boot_len (pa_cons (pe_fld (pv 0) rfl) pa_nil)) (nomark _)) (pe_one (pe_cmp (pc_notN (pe_fld (pe_ix ix_list (pe_fld (pv 0) rfl) (pv 1) (fun _ _ => rfl)) rfl))))))), ?_⟩
    refine ⟨_, rfl, ?_⟩ -- number
    refine ⟨_, rfl, _, _, _, _, _, rfl, D.ob, T.cl_Device, T.n_Device_works, dv_works _, ?_⟩
    refine ⟨_, _, rfl, .inl (SqL.of D.lst), ?_⟩ -- len
    refine ⟨_, _, rfl, rfl, ?_⟩ -- number < len(self.works)
    refine ⟨_, rfl, ?_⟩
    rw [List.length_map, D.len]
    unfold isOn at q
    refine ite2 (fun c1 => ?_) (fun c1 => ?_)
    · have c2 : n < ks.length := of_decide_eq_true c1
      have e1 : ks[n.toNat]? = some ks[n.toNat] := List.getElem?_eq_getElem (by omega)
      rw [e1] at q
      obtain ⟨x, e2, e3⟩ := D.get e1
      refine ⟨_, rfl, _, _, _, _, _, rfl, D.ob, T.cl_Device, T.n_Device_works, dv_works _, ?_⟩
      refine ⟨_, rfl, ?_⟩ -- number
      refine ⟨_, _, _, _, rfl, rfl, SqL.of D.lst, at_ref hn e2, ?_⟩ -- self.works[number]
      refine ⟨_, _, _, _, _, rfl, e3, T.cl_Work, T.n_Work_going, wo_going _, ?_⟩
      have ev := D.onV e1
      show Q (.bl (!decide (oA (goA a.gas g.cur[n.toNat]?) = V.non))) H
      rw [ev]
      exact q
    · have c2 : ¬ n < ks.length := fun z => c1 (decide_eq_true z)
      have e1 : ks[n.toNat]? = none := List.getElem?_eq_none (by omega)
      rw [e1] at q
      exact q
def sp_Device_start (K : PySem.W.Frag) : Sp := fun vs H Q _ => ∃ (a : DA) (ks : List Wk) (took : Bool) (g : GH) (n : Int), vs = [.ref a.d, .int n] ∧ DevAt K H a ks took g ∧ 0 ≤ n ∧ g.G.length < g.nb + 1000 ∧
  ∀ H' a', DLe a a' → DevAt K H' a' (ks.modify n.toNat Wk.start) took (g.start n.toNat) → Step a.foot H a'.foot H' → Q .non H'
theorem ok_Device_start (T : T w K mg) : FnR P w K mg base CX0 3 (He.ma K (He.ga K "Device") "start") (sp_Device_start K) := by
  have F_Going_init : FnR P w K mg base CX0 1 _ _ := ok_Going_init T
  obtain ⟨fd, F⟩ := T.f_Device_start
  refine F.r sc_Device_start (fun _ _ _ _ _ _ us hl => match us, hl with | [_, _], _ => rfl) (fun vs H Q E h => ?_) (fun cdv A outer s H vs Q E hr h => ?_)
  · obtain ⟨_, _, _, _, _, rfl, _⟩ := h
    rfl
  · obtain ⟨a, ks, took, g, n, rfl, D, hn, hb, q⟩ := h
    refine ⟨_, (pss_cons (ps_if (pt_cmpR op_ge (pv 1) (pe_callB call_len_seq rfl T.u_len PySem.boot_len (pa_cons (pe_fld (pv 0) rfl) pa_nil)) (nomark _))
      (pss_one ps_retN)
      pss_nil)
      (pss_cons (ps_set (i := 2) sc_Device_start.nd rfl (Or.inl rfl) (pe_ix ix_list (pe_fld (pv 0) rfl) (pv 1) (fun _ _ => rfl)))
      (pss_one (ps_if (pt_cmp (pc_isN (pe_fld (pv 2) rfl)))
      (pss_cons (ps_fld (pv 2) (pe_mkR T.mk_Going F_Going_init (hr.mono (by decide)) rfl T.g_Going (pa_cons (pv 1) pa_nil)) rfl)
      (pss_one (ps_expr (pe_bm PySem.F.plainAttrs_list PySem.F.slot_list_append PySem.F.type_list_append mt_append (pe_fld (pv 0) rfl) (pa_cons (pe_fld (pv 2) rfl) pa_nil)))))
      pss_nil)))), ?_⟩
    refine ⟨_, rfl, ?_⟩ -- number
    refine ⟨_, rfl, _, _, _, _, _, rfl, D.ob, T.cl_Device, T.n_Device_works, dv_works _, ?_⟩
    refine ⟨_, _, rfl, .inl (SqL.of D.lst), ?_⟩ -- len
    refine ⟨_, _, rfl, rfl, ?_⟩ -- number >= len(self.works)
    refine ⟨_, rfl, ?_⟩ -- test
    rw [List.length_map, D.len]
    refine ite2 (fun c1 => ?_) (fun c1 => ?_)
    · have c2 : n ≥ ks.length := of_decide_eq_true c1
      have e1 : g.cur[n.toNat]? = none := List.getElem?_eq_none (by rw [D.co.clen]; omega)
      refine q H a (DLe.refl _) ?_ (Step.refl _ _)
      rw [start_none e1, modify_out (by omega)]
      exact D
    · have c2 : ¬ n ≥ ks.length := fun z => c1 (decide_eq_true z)
      have e1 : ks[n.toNat]? = some ks[n.toNat] := List.getElem?_eq_getElem (by omega)
      generalize ek : ks[n.toNat] = k at e1
      obtain ⟨x, e2, e3⟩ := D.get e1
      refine ⟨_, rfl, _, _, _, _, _, rfl, D.ob, T.cl_Device, T.n_Device_works, dv_works _, ?_⟩
      refine ⟨_, rfl, ?_⟩ -- number
      refine ⟨_, _, _, _, rfl, rfl, SqL.of D.lst, at_ref hn e2, ?_⟩ -- self.works[number]
      refine ⟨_, rfl, _, _, _, _, _, rfl, e3, T.cl_Work, T.n_Work_going, wo_going _, ?_⟩
      refine ⟨_, rfl, ?_⟩ -- test
      have hj : n.toNat < g.cur.length := by rw [D.co.clen]; omega
      have hc := List.getElem?_eq_getElem hj
      cases eo : g.cur[n.toNat] with
      | some i =>
        rw [eo] at hc
        obtain ⟨o, e, e4, _⟩ := D.co.on n.toNat k i e1 hc
        obtain ⟨y, y1, _⟩ := D.getG e4
        have eg : goA a.gas (some (some i)) = some y.g := by
          show (a.gas[i]?).map _ = _
          rw [y1]
          rfl
        have ev : (k.wo (goA a.gas g.cur[n.toNat]?)).going = some y.g := by rw [hc]; exact eg
        rw [ev]
        refine iteF ?_
        refine q H a (DLe.refl _) ?_ (Step.refl _ _)
        rw [start_on hc, D.co.start_same (by rw [hc]; simp)]
        exact D
      | none =>
        rw [eo] at hc
        have ev : (k.wo (goA a.gas g.cur[n.toNat]?)).going = none := by rw [hc]; rfl
        rw [ev]
        rw [hc] at e3
        refine iteT ?_
        refine ⟨_, rfl, ?_⟩ -- number
        intro p dp np ndp ne
        have s1 : Same H (upd (upd H dp (.own p)) p (.ins (cGoing K) dp [])) := fun b o e => by
          rw [upd_ne (ne_of_none e np), upd_ne (ne_of_none e ndp)]
          exact e
        refine ⟨p, dp, n, rfl, upd_same, fun H2 r hr1 hr2 hp2 k2 => ⟨rfl, ?_⟩⟩ -- Going(number)
        have s2 : Same H H2 := fun b o e => k2 b o (s1 b o e) (by simpa using ne_of_none e np)
        have nr : H r = none := Same.free s1 hr1
        have rp : p ≠ r := fun z => by rw [← z, upd_same] at hr1; cases hr1
        have xp : x.1 ≠ p := ne_of_none e3 np
        have xr : x.1 ≠ r := ne_of_none e3 nr
        refine stf (s2 _ _ e3) T.cl_Work T.n_Work_going (wo_len _) (wo_put_goingS _ _) ?_ -- work.going = Going(number)
        generalize e6 : upd H2 x.1 _ = H3
        have hx3 : H3 x.1 = some (.ins (cWork K) x.2 (woF (k.wo (some p)))) := by rw [← e6]; exact upd_same
        have hd3 : H3 a.d = some (.ins (cDevice K) a.dd (dvF ⟨a.l, took, a.lb⟩)) := by rw [← e6, upd_ne (D.dW e2)]; exact s2 _ _ D.ob
        have hlb3 : H3 a.lb = some (.lst ((a.gas.drop g.nb).map fun x => V.ref x.g)) := by rw [← e6, upd_ne (lst_ne_ins D.bg e3)]; exact s2 _ _ D.bg
        have hp3 : H3 p = some (.ins (cGoing K) dp (ggF ⟨n, none, r⟩)) := by rw [← e6, upd_ne (Ne.symm xp)]; exact hp2
        have hr3 : H3 r = some (.lst []) := by rw [← e6, upd_ne (Ne.symm xr)]; exact hr2
        have k3 : Kept [x.1, a.lb] H H3 := by rw [← e6]; exact (Kept.same s2).put (by simp)
        refine ⟨_, rfl, _, _, _, _, _, rfl, hd3, T.cl_Device, T.n_Device_begun, dv_begun _, ?_⟩
        refine ⟨.inl ⟨rfl, _, SqL.of hlb3⟩, ?_⟩
        refine ⟨_, rfl, _, _, _, _, _, rfl, hx3, T.cl_Work, T.n_Work_going, wo_going _, ?_⟩
        refine ⟨_, _, _, rfl, rfl, hlb3, ?_, ?_⟩ -- append
        · rw [List.length_map, List.length_drop, D.glen]
          have := D.co.nbl
          show g.G.length - g.nb < 16777216
          omega
        · have lbx : a.lb ≠ x.1 := lst_ne_ins D.bg e3
          have lbp : a.lb ≠ p := ne_of_none D.bg np
          have lbr : a.lb ≠ r := ne_of_none D.bg nr
          have en : (n.toNat : Int) = n := by omega
          refine q _ { a with gas := a.gas ++ [⟨p, dp, r, []⟩] } ⟨rfl, [p], by simp⟩ (D.started (n := n.toNat) hc e2 e1 np nr rp ?_ ?_ ?_ upd_same (k3.put (by simp))) ⟨?_, fun b hb => ?_, fun b h => Same.free s2 (by have := upd_none h; rw [← e6] at this; exact upd_none this)⟩
          · rw [upd_ne (Ne.symm lbp), en]; exact hp3
          · rw [upd_ne (Ne.symm lbr)]; exact hr3
          · rw [upd_ne (Ne.symm lbx)]; exact hx3
          · refine (k3.put (by simp)).mono (fun z hz => ?_)
            have e : z = x.1 ∨ z = a.lb := by simpa using hz
            rcases e with rfl | rfl
            · exact DA.inW e2
            · exact DA.inB
          · rcases foot_new hb with h | h | h
            · exact .inl h
            · exact .inr (by rw [h]; exact np)
            · exact .inr (by rw [h]; exact nr)
def startAll (ks : List Wk) (ns : List Int) : List Wk := ns.foldl (fun ks n => ks.modify n.toNat Wk.start) ks
def GH.startAll (g : GH) (ns : List Int) : GH := ns.foldl (fun g n => g.start n.toNat) g
theorem GH.start_len {g : GH} {n : Nat} : (g.start n).G.length ≤ g.G.length + 1 ∧ (g.start n).nb = g.nb := by
  unfold GH.start
  split
  · simp
  · simp
theorem GH.startAll_len : ∀ {ns : List Int} {g : GH}, (g.startAll ns).G.length ≤ g.G.length + ns.length ∧ (g.startAll ns).nb = g.nb
  | [], g => ⟨Nat.le_refl _, rfl⟩
  | n :: r, g => by
    have h1 := GH.start_len (g := g) (n := n.toNat)
    have h2 := GH.startAll_len (ns := r) (g := g.start n.toNat)
    show ((g.start n.toNat).startAll r).G.length ≤ g.G.length + (r.length + 1) ∧ ((g.start n.toNat).startAll r).nb = g.nb
    omega
def sp_Device_wake (K : PySem.W.Frag) : Sp := fun vs H Q _ => ∃ (a : DA) (ks : List Wk) (took : Bool) (g : GH) (al : Addr) (ns : List Int), vs = [.ref a.d, .ref al] ∧ DevAt K H a ks took g ∧ H al = some (.lst (ns.map V.int)) ∧ al ∉ a.foot ∧ ns.length ≤ 8 ∧ (∀ n ∈ ns, 0 ≤ n) ∧
  ∀ H' a', DLe a a' → DevAt K H' a' (startAll ks ns) took (({ g with nb := g.G.length } : GH).startAll ns) → Step a.foot H a'.foot H' → Q .non H'
theorem ok_Device_wake (T : T w K mg) : FnR P w K mg base CX0 4 (He.ma K (He.ga K "Device") "wake") (sp_Device_wake K) := by
  have F_Device_start : FnR P w K mg base CX0 3 _ _ := ok_Device_start T
  obtain ⟨fd, F⟩ := T.f_Device_wake
  refine F.r sc_Device_wake (fun _ _ _ _ _ _ us hl => match us, hl with | [_, _], _ => rfl) (fun vs H Q E h => ?_) (fun cdv A outer s H vs Q E hr h => ?_)
  · obtain ⟨_, _, _, _, _, _, rfl, _⟩ := h
    rfl
  · obtain ⟨a, ks, took, g, al, ns, rfl, D, hal, nal, h8, hn, q⟩ := h
    refine ⟨_, (pss_cons (ps_fld (pv 0) (pe_lst pa_nil) rfl)
      (pss_one (ps_for PassesOwn.never rfl (pi_list (pv 1)) (pg_name (i := 2) sc_Device_wake.nd rfl (Or.inl rfl))
      (pss_one (ps_expr (pe_mthR (pv 0) T.cl_Device T.m_Device_start F_Device_start (hr.mono (by decide)) (pa_cons (pv 2) pa_nil))))))), ?_⟩
    refine ⟨by show 0 ≤ sizeLine; decide, fun b hb => ?_⟩
    have bd : a.d ≠ b := ne_of_none D.ob hb
    refine stf (by rw [upd_ne bd]; exact D.ob) T.cl_Device T.n_Device_begun (dv_len _) (dv_put_begun _ _) ?_
    have ab : al ≠ b := ne_of_none hal hb
    have ad : al ≠ a.d := fun z => nal (by rw [z]; exact DA.inD)
    generalize e6 : upd (upd H b (.lst [])) a.d _ = H1
    have D1 : DevAt K H1 { a with lb := b } ks took { g with nb := g.G.length } := by rw [← e6]; exact D.woken hb
    have s1 : Step a.foot H ({ a with lb := b } : DA).foot H1 := by
      rw [← e6]
      refine ⟨((Kept.refl _ H).new hb).put DA.inD, fun z hz => ?_, fun z h => upd_none (upd_none h)⟩
      unfold DA.foot at hz ⊢
      simp only [List.mem_cons] at hz ⊢
      rcases hz with h | h | h | h
      · exact .inl (.inl h)
      · exact .inl (.inr (.inl h))
      · exact .inr (by rw [h]; exact hb)
      · exact .inl (.inr (.inr (.inr h)))
    have hal1 : H1 al = some (.lst (ns.map V.int)) := by rw [← e6, upd_ne ad, upd_ne ab]; exact hal
    have nal1 : al ∉ ({ a with lb := b } : DA).foot := s1.apart hal nal
    refine ⟨_, rfl, al, rfl, ⟨_, SqL.of hal1⟩, for_list (K := K) (a := al) (xs := ns.map V.int) (fun i σ H2 => ∃ v2 a2, σ = [some (.ref a.d), some (.ref al), v2] ∧ DLe a a2 ∧ DevAt K H2 a2 (startAll ks (ns.take i)) took (({ g with nb := g.G.length } : GH).startAll (ns.take i)) ∧ Step a.foot H a2.foot H2 ∧ H2 al = some (.lst (ns.map V.int)))
      ⟨none, { a with lb := b }, rfl, ⟨rfl, [], by simp⟩, D1, s1, hal1⟩ (fun i σ H2 _ ⟨_, _, _, _, _, _, h⟩ => SqL.of h) ?_ ?_⟩
    · rintro i x σ H2 hx ⟨v2, a2, rfl, ad2, D2, s2, hal2⟩
      rw [List.getElem?_map] at hx
      cases ht : ns[i]? with
      | none => rw [ht] at hx; cases hx
      | some n =>
        rw [ht] at hx
        cases hx
        have hn0 := hn n (List.mem_of_getElem? ht)
        refine ⟨_, rfl, ?_⟩
        refine ⟨_, _, _, rfl, by rw [← ad2.d]; exact D2.ob, dv_no_start _, ?_⟩
        refine ⟨_, rfl, ?_⟩
        have et : ns.take (i + 1) = ns.take i ++ [n] := by
          rw [List.take_add_one, ht]
          rfl
        have hl := GH.startAll_len (ns := ns.take i) (g := ({ g with nb := g.G.length } : GH))
        have hlt : (ns.take i).length ≤ 8 := by rw [List.length_take]; omega
        have hg : (({ g with nb := g.G.length } : GH)).G.length = g.G.length := rfl
        have hnb : (({ g with nb := g.G.length } : GH)).nb = g.G.length := rfl
        refine ⟨a2, _, _, _, n, by rw [ad2.d], D2, hn0, by rw [hl.2, hnb]; rw [hg] at hl; omega, fun H3 a3 ad3 D3 s3 => ?_⟩
        refine ⟨_, a3, rfl, ad2.trans ad3, ?_, s2.trans s3, ?_⟩
        · rw [et]
          unfold startAll GH.startAll
          rw [List.foldl_append, List.foldl_append]
          exact D3
        · exact s3.kp _ _ hal2 (s2.apart hal nal)
    · rintro σ H2 ⟨v2, a2, rfl, ad2, D2, s2, _⟩
      rw [List.length_map, List.take_length] at D2
      exact q H2 a2 ad2 D2 s2
def optN : Option Nat → V
  | none => .non
  | some j => .int (j : Int)
def sp_Device_taker (K : PySem.W.Frag) : Sp := fun vs H Q _ => ∃ (a : DA) (m : Addr) (ks : List Wk) (took wanted : Bool) (g : GH) (ms : List Bool), vs = [.ref a.d, .bl wanted, .ref m] ∧ DevAt K H a ks took g ∧ H m = some (.lst (ms.map V.bl)) ∧ (∀ k ∈ ks, WkOk ms.length k) ∧
  ∀ H', Same H H' → Q (optN (ks.findIdx? (takes ms wanted took))) H'
theorem may_eq {k : Wk} {o : Option Addr} {b c : Bool} : mayK (k.wo o).greed b c = k.may b c := rfl
theorem ok_Device_taker (T : T w K mg) : FnR P w K mg base CX0 2 (He.ma K (He.ga K "Device") "taker") (sp_Device_taker K) := by
  have F_Device_is_on : FnR P w K mg base CX0 1 _ _ := ok_Device_is_on T
  have F_Work_held_off : FnR P w K mg base CX0 1 _ _ := ok_Work_held_off T
  have F_Work_may_take : FnR P w K mg base CX0 1 _ _ := ok_Work_may_take T
  obtain ⟨fd, F⟩ := T.f_Device_taker
  refine F.r sc_Device_taker (fun _ _ _ _ _ _ us hl => match us, hl with | [_, _, _], _ => rfl) (fun vs H Q E h => ?_) (fun cdv A outer s H vs Q E hr h => ?_)
  · obtain ⟨_, _, _, _, _, _, _, rfl, _⟩ := h
    rfl
  · obtain ⟨a, m, ks, took, wanted, g, ms, rfl, D, hm, hok, q⟩ := h
    refine ⟨_, (pss_cons (ps_for PassesOwn.never rfl (pi_enum rfl T.u_enumerate (pa_cons (pe_fld (pv 0) rfl) pa_nil)) (pg_tup rfl (pgs_cons (pg_name (i := 3) sc_Device_taker.nd rfl (Or.inl rfl)) (pgs_cons (pg_name (i := 4) sc_Device_taker.nd rfl (Or.inl rfl)) pgs_nil)))
      (pss_one (ps_if (PW.pt (pw_and (pt_val (pe_mthR (pv 0) T.cl_Device T.m_Device_is_on F_Device_is_on (hr.mono (by decide)) (pa_cons (pv 3) pa_nil))) (pw_and (pt_not (pt_val (pe_mthR (pv 4) T.cl_Work T.m_Work_held_off F_Work_held_off (hr.mono (by decide)) (pa_cons (pv 2) pa_nil)))) (pw_and1 (pt_val (pe_mthR (pv 4) T.cl_Work T.m_Work_may_take F_Work_may_take (hr.mono (by decide)) (pa_cons (pv 1) (pa_cons (pe_fld (pv 0) rfl) pa_nil))))))))
      (pss_one (ps_ret (pv 3)))
      pss_nil)))
      (pss_one (ps_ret pe_non))), ?_⟩
    refine ⟨_, rfl, _, _, _, _, _, rfl, D.ob, T.cl_Device, T.n_Device_works, dv_works _, ?_⟩
    refine ⟨a.l, a.was.map (fun p => V.ref p.1), rfl, SqL.of D.lst, for_it walk_enum (fun i σ H2 => ∃ v3 v4, σ = [some (.ref a.d), some (.bl wanted), some (.ref m), v3, v4] ∧ Same H H2 ∧ ∀ j k, j < i → ks[j]? = some k → takes ms wanted took k = false)
      ⟨none, none, rfl, Same.refl H, fun j k h _ => absurd h (by omega)⟩ (fun i σ H2 _ ⟨_, _, _, s2, _⟩ => SqL.of (s2 _ _ D.lst)) ?_ ?_⟩
    · rintro i x σ H2 H3 hi ⟨v3, v4, rfl, s2, hno⟩ ⟨t, y, z, rfl, ht, rfl, e1, e2⟩
      cases e1
      rw [List.length_map] at hi
      obtain ⟨k, hk⟩ : ∃ k, ks[i]? = some k := ⟨_, List.getElem?_eq_getElem (by rw [← D.len]; exact hi)⟩
      obtain ⟨x, e3, e4⟩ := D.get hk
      have e2 : (a.was.map fun p => V.ref p.1)[i]? = some z := e2
      rw [List.getElem?_map, e3] at e2
      cases e2
      have s3 : Same H (upd H2 t (.tup [.int (i : Int), .ref x.1])) := s2.trans (Same.new (Same.refl H2) ht)
      have D3 := D.same s3
      have hk3 := s3 _ _ e4
      have okk := hok k (List.mem_of_getElem? hk)
      refine ⟨t, _, rfl, .inl (.inl upd_same), rfl, _, _, rfl, _, _, rfl, rfl, ?_⟩
      refine ⟨_, rfl, _, _, _, rfl, D3.ob, dv_no_is_on _, ?_⟩
      refine ⟨_, rfl, ?_⟩ -- number
      refine ⟨a, ks, took, g, (i : Int), rfl, D3, by omega, ?_⟩
      refine ⟨_, rfl, ?_⟩ -- test
      have eon : isOn ks (i : Int) = k.on := by
        unfold isOn
        rw [show ((i : Int)).toNat = i from by omega, hk]
      rw [eon]
      have fin : takes ms wanted took k = false → ∃ v3 v4, (([some (.ref a.d), some (.bl wanted), some (.ref m), v3, v4] : L2.St).set 3 (some (.int (i : Int)))).set 4 (some (.ref x.1)) = [some (.ref a.d), some (.bl wanted), some (.ref m), v3, v4] ∧ Same H (upd H2 t (.tup [.int (i : Int), .ref x.1])) ∧ ∀ j k, j < i + 1 → ks[j]? = some k → takes ms wanted took k = false := fun hf =>
        ⟨_, _, rfl, s3, fun j k' hj hk' => by
          by_cases z : j = i
          · subst z
            rw [hk] at hk'
            cases hk'
            exact hf
          · exact hno j k' (by omega) hk'⟩
      cases hon : k.on with
      | false =>
        refine iteF (iteF ?_)
        exact fin (by unfold takes; rw [hon]; rfl)
      | true =>
        obtain ⟨i', e', x', y', c1, c2, c3, c4, c5, c6, c7, c8, c9, c10, c11⟩ := D3.onAt hk hon
        rw [e3] at c3
        cases c3
        refine iteT ?_
        refine ⟨_, rfl, ?_⟩ -- work
        refine ⟨_, _, _, rfl, hk3, wo_no_held_off _, ?_⟩
        refine ⟨_, rfl, ?_⟩ -- marks
        refine ⟨x.1, x.2, m, y'.g, y'.dg, y'.pl, k, _, _, ms, rfl, c9, c10, c11.lst, by rw [List.length_map, c11.len, List.length_map]; exact c7, s3 _ _ hm, okk.1, okk.2.1, ?_⟩
        refine ⟨_, rfl, ?_⟩ -- test
        cases hh : k.held ms with
        | true =>
          refine iteF (iteF ?_)
          exact fin (by unfold takes; rw [hon, hh]; rfl)
        | false =>
          refine iteT ?_
          refine ⟨_, rfl, ?_⟩ -- work
          refine ⟨_, _, _, rfl, hk3, wo_no_may_take _, ?_⟩
          refine ⟨_, rfl, ?_⟩ -- wanted
          refine ⟨_, rfl, _, _, _, _, _, rfl, D3.ob, T.cl_Device, T.n_Device_took, dv_took _, ?_⟩
          refine ⟨x.1, x.2, _, wanted, took, rfl, hk3, ?_⟩
          refine ⟨_, rfl, ?_⟩ -- test
          rw [may_eq]
          cases hy : k.may wanted took with
          | false =>
            refine iteF ?_
            exact fin (by unfold takes; rw [hon, hh, hy]; rfl)
          | true =>
            refine iteT ?_
            refine ⟨_, rfl, ?_⟩
            have ef : ks.findIdx? (takes ms wanted took) = some i := by
              have hi2 : i < ks.length := by rw [← D.len]; exact hi
              refine List.findIdx?_eq_some_iff_getElem.mpr ⟨hi2, ?_, fun j hj => ?_⟩
              · have ek : ks[i] = k := by rw [List.getElem?_eq_getElem hi2] at hk; exact Option.some.inj hk
                rw [ek]
                unfold takes
                rw [hon, hh, hy]
                rfl
              · have hj2 : j < ks.length := by omega
                have := hno j _ hj (List.getElem?_eq_getElem hj2)
                simp [this]
            rw [ef] at q
            exact q _ s3
    · rintro σ H2 ⟨v3, v4, rfl, s2, hno⟩
      rw [List.length_map] at hno
      have ef : ks.findIdx? (takes ms wanted took) = none := by
        refine List.findIdx?_eq_none_iff.mpr fun x hx => ?_
        obtain ⟨j, hj, e⟩ := List.mem_iff_getElem.mp hx
        exact hno j x (by rw [D.len]; exact hj) (by rw [List.getElem?_eq_getElem hj, e])
      rw [ef] at q
      exact q _ s2
def Told (H H' : Hp) (v : V) : Option (Int × Str × Int × Int) → Prop
  | none => v = .non
  | some (j, z, a, x) => ∃ p, v = .ref p ∧ H p = none ∧ H' p = some (.tup [.int j, .str z, .int a, .int x])
def sp_Device_move (K : PySem.W.Frag) : Sp := fun vs H Q _ => ∃ (a : DA) (m lw : Addr) (ks : List Wk) (took wanted : Bool) (g : GH) (ms : List Bool) (ws : List Int) (when : Int), vs = [.ref a.d, .int when, .bl wanted, .ref m, .ref lw] ∧ DevAt K H a ks took g ∧
  H m = some (.lst (ms.map V.bl)) ∧ H lw = some (.lst (ws.map V.int)) ∧ 0 < ws.length ∧ lw ∉ a.foot ∧ (∀ k ∈ ks, WkOk ms.length k) ∧ g.G.length < g.nb + 1000 ∧
  ∀ H' a' v, DLe a a' → DevAt K H' a' (devMove ks took wanted ms ws).1 (devMove ks took wanted ms ws).2.1 (devG ks took wanted ms ws when g) → H' lw = some (.lst ((devMove ks took wanted ms ws).2.2.1.map V.int)) → Stp [lw] a.foot H a'.foot H' → Told H H' v (devMove ks took wanted ms ws).2.2.2 → Q v H'
theorem GH.move_len {g : GH} {j : Nat} {k : Wk} {when : Int} {ws : List Int} : (g.move j k when ws).G.length = g.G.length ∧ (g.move j k when ws).nb = g.nb := by
  unfold GH.move
  split
  · split
    · split <;> simp
    · simp
  · simp
theorem ok_Device_move (T : T w K mg) : FnR P w K mg base CX0 4 (He.ma K (He.ga K "Device") "move") (sp_Device_move K) := by
  have F_Device_taker : FnR P w K mg base CX0 2 _ _ := ok_Device_taker T
  have F_Device_start : FnR P w K mg base CX0 3 _ _ := ok_Device_start T
  have F_Work_move : FnR P w K mg base CX0 2 _ _ := ok_Work_move T
  obtain ⟨fd, F⟩ := T.f_Device_move
  refine F.r sc_Device_move (fun _ _ _ _ _ _ us hl => match us, hl with | [_, _, _, _, _], _ => rfl) (fun vs H Q E h => ?_) (fun cdv A outer s H vs Q E hr h => ?_)
  · obtain ⟨_, _, _, _, _, _, _, _, _, _, rfl, _⟩ := h
    rfl
  · obtain ⟨a, m, lw, ks, took, wanted, g, ms, ws, when, rfl, D, hm, hlw, hw0, nl, hok, hgl, q⟩ := h
    refine ⟨_, (pss_cons (ps_set (i := 5) sc_Device_move.nd rfl (Or.inl rfl) (pe_mthR (pv 0) T.cl_Device T.m_Device_taker F_Device_taker (hr.mono (by decide)) (pa_cons (pv 2) (pa_cons (pv 3) pa_nil))))
      (pss_cons (ps_fld (pv 0) (pe_cmp (pc_notN (pv 5))) rfl)
      (pss_cons (ps_if (pt_cmp (pc_isN (pv 5)))
      (pss_one (ps_ret pe_non))
      pss_nil)
      (pss_cons (ps_set (i := 6) sc_Device_move.nd rfl (Or.inl rfl) (pe_ix ix_list (pe_fld (pv 0) rfl) (pv 5) (fun _ _ => rfl)))
      (pss_cons (ps_asg (pe_mthR (pv 6) T.cl_Work T.m_Work_move F_Work_move (hr.mono (by decide)) (pa_cons (pv 1) (pa_cons (pv 4) pa_nil))) (pg_tup rfl (pgs_cons (pg_name (i := 7) sc_Device_move.nd rfl (Or.inl rfl)) (pgs_cons (pg_name (i := 8) sc_Device_move.nd rfl (Or.inl rfl)) (pgs_cons (pg_name (i := 9) sc_Device_move.nd rfl (Or.inl rfl)) pgs_nil)))))
      (pss_cons (ps_if (PW.pt (pw_and (pt_cmp (pc_isN (pe_fld (pv 6) rfl))) (pw_and1 (pt_cmp (pc_notN (pe_fld (pv 6) rfl))))))
      (pss_one (ps_expr (pe_mthR (pv 0) T.cl_Device T.m_Device_start F_Device_start (hr.mono (by decide)) (pa_cons (pe_fld (pv 6) rfl) pa_nil))))
      pss_nil)
      (pss_one (ps_ret (pe_tup (pa_cons (pv 5) (pa_cons (pv 7) (pa_cons (pv 8) (pa_cons (pv 9) pa_nil))))))))))))), ?_⟩
    refine ⟨_, rfl, ?_⟩ -- self
    refine ⟨_, _, _, rfl, D.ob, dv_no_taker _, ?_⟩
    refine ⟨_, rfl, ?_⟩ -- wanted
    refine ⟨_, rfl, ?_⟩ -- marks
    refine ⟨a, m, ks, took, wanted, g, ms, rfl, D, hm, hok, fun H1 s1 => ?_⟩ -- self.taker(wanted, marks)
    have D1 := D.same s1
    have lwd : lw ≠ a.d := fun z => nl (by rw [z]; exact DA.inD)
    refine ⟨_, rfl, ?_⟩ -- number
    unfold devMove devG at q
    have inF : ∀ {b : Addr}, b ∈ a.foot → b ∈ lw :: a.foot := fun h => List.mem_cons_of_mem _ h
    cases ej : ks.findIdx? (takes ms wanted took) with
    | none =>
      rw [ej] at q
      refine stf D1.ob T.cl_Device T.n_Device_took (dv_len _) (dv_put_took _ _) ?_ -- self.took = number is not None
      refine ⟨_, rfl, ?_⟩ -- number
      refine ⟨_, rfl, ?_⟩ -- test
      refine iteT ?_
      exact q _ a _ (DLe.refl _) D1.setTook (by rw [upd_ne lwd]; exact s1 _ _ hlw) (Stp.of ((Kept.same s1).put (inF DA.inD)) (fun b h => Same.free s1 (upd_none h))) rfl
    | some j =>
      obtain ⟨k, hk⟩ : ∃ k, ks[j]? = some k := by
        obtain ⟨hj, _⟩ := List.findIdx?_eq_some_iff_getElem.mp ej
        exact ⟨_, List.getElem?_eq_getElem hj⟩
      have hon : k.on = true := by
        obtain ⟨hj, ht, _⟩ := List.findIdx?_eq_some_iff_getElem.mp ej
        rw [List.getElem?_eq_getElem hj] at hk
        cases hk
        unfold takes at ht
        rw [Bool.and_eq_true] at ht
        exact ht.1
      rw [ej] at q
      simp only [hk] at q
      refine stf D1.ob T.cl_Device T.n_Device_took (dv_len _) (dv_put_took _ _) ?_ -- self.took = number is not None
      have D2 : DevAt K (upd H1 a.d (.ins (cDevice K) a.dd (dvF ⟨a.l, true, a.lb⟩))) a ks true g := D1.setTook
      have k2 : Kept (lw :: a.foot) H (upd H1 a.d (.ins (cDevice K) a.dd (dvF ⟨a.l, true, a.lb⟩))) := (Kept.same s1).put (inF DA.inD)
      have f2 : ∀ b, upd H1 a.d (.ins (cDevice K) a.dd (dvF ⟨a.l, true, a.lb⟩)) b = none → H b = none := fun b h => Same.free s1 (upd_none h)
      have hlw2 : upd H1 a.d (.ins (cDevice K) a.dd (dvF ⟨a.l, true, a.lb⟩)) lw = some (.lst (ws.map V.int)) := by rw [upd_ne lwd]; exact s1 _ _ hlw
      show (tSeq _ _) _ _ (upd H1 a.d (.ins (cDevice K) a.dd (dvF ⟨a.l, true, a.lb⟩)))
      generalize upd H1 a.d (.ins (cDevice K) a.dd (dvF ⟨a.l, true, a.lb⟩)) = H2 at D2 k2 hlw2 f2
      obtain ⟨i, e, x, y, c1, c2, c3, c4, c5, c6, c7, c8, c9, c10, c11⟩ := D2.onAt hk hon
      refine ⟨_, rfl, ?_⟩ -- number
      refine ⟨_, rfl, ?_⟩ -- test
      refine iteF ?_
      refine ⟨_, rfl, _, _, _, _, _, rfl, D2.ob, T.cl_Device, T.n_Device_works, dv_works _, ?_⟩
      refine ⟨_, rfl, ?_⟩ -- number
      refine ⟨_, _, _, _, rfl, rfl, SqL.of D2.lst, at_ref (n := (j : Int)) (by omega) (by simpa using c3), ?_⟩ -- self.works[number]
      refine ⟨_, rfl, ?_⟩ -- work
      refine ⟨_, _, _, rfl, c9, wo_no_move _, ?_⟩
      refine ⟨_, rfl, _, rfl, ?_⟩ -- when, words
      have lpl : lw ≠ y.pl := fun z => nl (by rw [z]; exact DA.inP c4)
      have mb := D2.co.mb k (List.mem_of_getElem? hk)
      have wkeep : ∀ {b : Addr}, b ∈ [x.1, y.g, y.pl, lw] → b ∈ lw :: a.foot := fun {b} hb => by
        simp only [List.mem_cons] at hb
        rcases hb with rfl | rfl | rfl | rfl | hb
        · exact inF (DA.inW c3)
        · exact inF (DA.inG c4)
        · exact inF (DA.inP c4)
        · exact List.mem_cons_self
        · cases hb
      /- what follows the work's move -/
      have rest : ∀ (H3 : Hp) (p : Addr) (a3 : DA), DLe a a3 → a3.was = a.was → a3.foot = a.foot → DevAt K H3 a3 (ks.set j (k.move ws).1) true (g.move j k when ws) → H p = none → H3 p = some (.tup [.str (k.move ws).2.2.1, .int (k.move ws).2.2.2.1, .int (k.move ws).2.2.2.2]) → H3 lw = some (.lst ((k.move ws).2.1.map V.int)) → Kept (lw :: a.foot) H H3 → (∀ b, H3 b = none → H b = none) →
          H3 x.1 = some (.ins (cWork K) x.2 (woF (k.wo (if (k.move ws).1.on = true then some y.g else none)))) →
          gTup K 3 (gCons (gName 7) (gCons (gName 8) (gCons (gName 9) gNil))) (.ref p) [some (.ref a.d), some (.int when), some (.bl wanted), some (.ref m), some (.ref lw), some (.int (j : Int)), some (.ref x.1), none, none, none] H3 (fun σ2 H2 => (tSeq (tIfS (tAnd (tTest (tIsN (tFld K (tVar 6) "going"))) (tTest (tNotN (tFld K (tVar 6) "follow"))))
            (tDrop (tMethR (He.ga K "Device") "start" (sp_Device_start K) E0 (tVar 0) (tCons (tFld K (tVar 6) "follow") tNil))) tNext) (tRet (tTup (tCons (tVar 5) (tCons (tVar 7) (tCons (tVar 8) (tCons (tVar 9) tNil))))))) { nx := fun _ H' => Q .non H', rt := Q } σ2 H2) := by
        intro H3 p a3 ad3 aw3 af3 D3 np hp3 hl3 k3 f3 hx3
        refine ⟨p, _, rfl, .inl (.inl hp3), rfl, _, _, rfl, _, _, rfl, _, _, rfl, rfl, ?_⟩ -- deed, address, word = work.move(words)
        have s3 : Stp [lw] a.foot H a3.foot H3 := by rw [af3]; exact Stp.of k3 f3
        have fin : ∀ (H4 : Hp) (a4 : DA) (ks4 : List Wk) (g4 : GH), DLe a a4 → Stp [lw] a.foot H a4.foot H4 → DevAt K H4 a4 ks4 true g4 → H4 lw = some (.lst ((k.move ws).2.1.map V.int)) →
            (∀ H' a' v, DLe a a' → DevAt K H' a' ks4 true g4 → H' lw = some (.lst ((k.move ws).2.1.map V.int)) → Stp [lw] a.foot H a'.foot H' → Told H H' v (some ((j : Int), (k.move ws).2.2)) → Q v H') →
            tRet (tTup (tCons (tVar 5) (tCons (tVar 7) (tCons (tVar 8) (tCons (tVar 9) tNil))))) { nx := fun _ H' => Q .non H', rt := Q } [some (.ref a.d), some (.int when), some (.bl wanted), some (.ref m), some (.ref lw), some (.int (j : Int)), some (.ref x.1), some (.str (k.move ws).2.2.1), some (.int (k.move ws).2.2.2.1), some (.int (k.move ws).2.2.2.2)] H4 := by
          intro H4 a4 ks4 g4 ad4 s4 D4 hl4 q4
          refine ⟨_, rfl, _, rfl, _, rfl, _, rfl, by show 4 ≤ sizeLine; decide, fun p2 hp2 => ?_⟩
          have np2 : H p2 = none := s4.fr _ hp2
          have s5 : Same H4 (upd H4 p2 (.tup [.int (j : Int), .str (k.move ws).2.2.1, .int (k.move ws).2.2.2.1, .int (k.move ws).2.2.2.2])) := Same.new (Same.refl _) hp2
          exact q4 _ a4 _ ad4 (D4.same s5) (s5 _ _ hl4) (s4.trans (Stp.same s5)) ⟨p2, rfl, np2, upd_same⟩
        cases hon' : (k.move ws).1.on with
        | true =>
          rw [hon'] at q hx3
          rw [if_pos rfl] at hx3
          refine ⟨_, rfl, _, _, _, _, _, rfl, hx3, T.cl_Work, T.n_Work_going, wo_going _, ?_⟩
          refine ⟨_, rfl, ?_⟩ -- test
          refine iteF (iteF ?_)
          exact fin H3 a3 _ _ ad3 s3 D3 hl3 q
        | false =>
          rw [hon'] at q hx3
          rw [if_neg (by simp)] at hx3
          refine ⟨_, rfl, _, _, _, _, _, rfl, hx3, T.cl_Work, T.n_Work_going, wo_going _, ?_⟩
          refine ⟨_, rfl, ?_⟩ -- test
          refine iteT ?_
          refine ⟨_, rfl, _, _, _, _, _, rfl, hx3, T.cl_Work, T.n_Work_follow, wo_follow _, ?_⟩
          refine ⟨_, rfl, ?_⟩ -- test
          have hkf : (k.move ws).1.follow = k.follow := by
            unfold Wk.move
            cases k.hand <;> rfl
          rw [hkf] at q
          show if _ = true then _ else _
          cases hfo : k.follow with
          | none =>
            rw [hfo] at q
            have e1 : (k.wo none).follow = none := hfo
            rw [e1]
            refine iteF ?_
            exact fin H3 a3 _ _ ad3 s3 D3 hl3 q
          | some f =>
            rw [hfo] at q
            have e1 : (k.wo none).follow = some f := hfo
            rw [e1]
            have hf0 : 0 ≤ f := (hok k (List.mem_of_getElem? hk)).2.2 f hfo
            refine iteT ?_
            refine ⟨_, rfl, ?_⟩ -- self
            refine ⟨_, _, _, rfl, by rw [← ad3.d]; exact D3.ob, dv_no_start _, ?_⟩
            refine ⟨_, rfl, _, _, _, _, _, rfl, hx3, T.cl_Work, T.n_Work_follow, wo_follow _, ?_⟩
            have ml := GH.move_len (g := g) (j := j) (k := k) (when := when) (ws := ws)
            refine ⟨a3, _, true, _, f, by rw [ad3.d, e1]; rfl, D3, hf0, by rw [ml.1, ml.2]; exact hgl, fun H4 a4 ad4 D4 s4 => ?_⟩ -- self.start(work.follow)
            have lw3 : lw ∉ a3.foot := by rw [af3]; exact nl
            exact fin H4 a4 _ _ (ad3.trans ad4) (s3.trans (s4.more [lw])) D4 (s4.kp _ _ hl3 lw3) q
      refine ⟨x.1, x.2, y.g, y.dg, y.pl, lw, k, _, when, _, ws, rfl, c9, c10, c11.lst, by rw [List.length_map, c11.len, List.length_map]; exact c7, hlw2, hw0, Ne.symm (D2.wG c4 c3), lpl, c8, by omega, fun hn H3 p f => ?_, fun v hn H3 p t f => ?_⟩ -- work.move(words)
      · have em : k.move ws = ({ k with hand := some (ws.getD ((k.begin + k.laid) % ws.length).toNat 0) }, ws, (("get" : Str), (k.begin + k.laid) % ws.length, ws.getD ((k.begin + k.laid) % ws.length).toNat 0)) := by
          unfold Wk.move
          rw [hn]
        have D3 := D2.fetched (when := when) hk hn c1 c2 c5 c4 f
        obtain ⟨f1, f2', f3, f4⟩ := f
        have yg : x.1 ≠ y.g := Ne.symm (D2.wG c4 c3)
        have lg : lw ≠ y.g := fun z => nl (by rw [z]; exact DA.inG c4)
        refine rest H3 p a (DLe.refl _) rfl rfl D3 (f2 _ f1) (by rw [em]; exact f2') (by rw [em]; exact f4 _ _ hlw2 (by simpa using lg)) (k2.trans (f4.mono (fun z hz => by
          have e : z = y.g := by simpa using hz
          rw [e]
          exact inF (DA.inG c4)))) (fun b hb => f2 _ (f4.free hb (fun z => by
          have e : b = y.g := by simpa using z
          rw [e, f3] at hb
          cases hb))) ?_
        have eo : (k.move ws).1.on = true := by rw [em]; exact hon
        rw [eo, if_pos rfl]
        exact f4 _ _ c9 (by simpa using yg)
      · have em : k.move ws = ({ k with hand := none, laid := k.laid + 1, on := decide (k.laid + 1 < k.many) }, ws.set ((k.goal + k.laid) % ws.length).toNat v, (("put" : Str), (k.goal + k.laid) % ws.length, v)) := by
          unfold Wk.move
          rw [hn]
        have D3 := D2.laid (when := when) hk hn c1 c2 c5 c3 c4 hlw2 nl f
        obtain ⟨f1, f2', f3, f4, f5, f6, f7, f8, f9⟩ := f
        refine rest H3 p { a with gas := a.gas.set i { y with ps := y.ps ++ [t] } } ⟨rfl, [], by rw [List.append_nil]; exact gas_g c4⟩ rfl (foot_set c4) D3 (f2 _ f1) (by rw [em]; exact f3) (by rw [em]; exact f8) (k2.trans (f9.mono (fun z hz => wkeep hz))) (fun b hb => f2 _ (f9.free hb (fun z => by
          simp only [List.mem_cons] at z
          rcases z with rfl | rfl | rfl | rfl | z
          · rw [f7] at hb; cases hb
          · rw [f6] at hb; cases hb
          · rw [f5] at hb; cases hb
          · rw [f8] at hb; cases hb
          · cases z))) ?_
        have eo : (k.move ws).1.on = decide (k.laid + 1 < k.many) := by rw [em]
        rw [eo, f7]
        by_cases c : k.laid + 1 < k.many
        · rw [if_pos c, if_pos (decide_eq_true c)]
        · rw [if_neg c, if_neg (by simpa using c)]
end
end SB

set_option Elab.async false
set_option linter.all false
set_option maxRecDepth 100000
set_option maxHeartbeats 2000000
namespace SB
open PySem L2
section
variable {P : Program} {w : World} {K : PySem.W.Frag} {mg : Str → Option Value} {base : Heap}
variable {H H' : Hp} {a : DA} {ks : List Wk} {took : Bool} {g : GH}
def Wk.vs (k : Wk) : List V := [.int k.begin, .int k.goal, .int k.many, .int k.block, .str k.greed, oV k.mark, oV k.follow]
def Wk.fresh (k : Wk) : Wk := { k with on := false, laid := 0, hand := none }
structure WorksAt (K : PySem.W.Frag) (H : Hp) (wl : Addr) (ts : List Addr) (ks : List Wk) : Prop where
  lst : SqL K H wl (ts.map V.ref)
  len : ts.length = ks.length
  at_ : ∀ (j : Nat) (t : Addr) (k : Wk), ts[j]? = some t → ks[j]? = some k → SqT K H t k.vs
theorem WorksAt.same {wl : Addr} {ts : List Addr} (W : WorksAt K H wl ts ks) (s : Same H H') : WorksAt K H' wl ts ks := ⟨s.seq W.lst, W.len, fun j t k h1 h2 => Same.tup s (W.at_ j t k h1 h2)⟩
def GH.none (n : Nat) : GH := ⟨[], List.replicate n Option.none, 0⟩
def sp_Device_init (K : PySem.W.Frag) : Sp := fun vs H Q _ => ∃ (d dd wl : Addr) (ts : List Addr) (ks : List Wk), vs = [.ref d, .ref wl] ∧ H d = some (.ins (cDevice K) dd []) ∧ WorksAt K H wl ts ks ∧ ts.length ≤ 6 ∧ (∀ k ∈ ks, 0 < k.many ∧ k.many ≤ 16) ∧
  ∀ H' a, a.d = d → DevAt K H' a (ks.map Wk.fresh) false (GH.none ks.length) → (∀ b ∈ a.foot, b ≠ d → H b = none) → Kept [d] H H' → (∀ b, H' b = none → H b = none) → Q .non H'
theorem ok_Device_init (T : T w K mg) : FnR P w K mg base CX0 3 (He.ma K (He.ga K "Device") "__init__") (sp_Device_init K) := by
  have F_Work_init : FnR P w K mg base CX0 1 _ _ := ok_Work_init T
  obtain ⟨fd, F⟩ := T.f_Device_init
  refine F.r sc_Device_init (fun _ _ _ _ _ _ us hl => match us, hl with | [_, _], _ => rfl) (fun vs H Q E h => ?_) (fun cdv A outer s H vs Q E hr h => ?_)
  · obtain ⟨_, _, _, _, _, rfl, _⟩ := h
    rfl
  · obtain ⟨d, dd, wl, ts, ks, rfl, hself, W, h6, mb, q⟩ := h
    refine ⟨_, (pss_cons (ps_fld (pv 0) (pe_lc (own := [("work", 2)]) (g := gName 2) (tt := tYes) (te := tMakeS K (He.ga K "Work") (sp_Work_init K) (tVar 2)) rfl sc_Device_init.nd (pi_list (pv 1)) (blkOk_by (N := ["self", "works", "work"]) (sc := defScope s_Device_init) (by decide +kernel)) (fun _ _ _ _ _ => pg_name (i := 2) sc_Device_init.nd rfl (Or.inl rfl)) (fun _ _ _ _ _ => pts_nil)
        (fun _ _ _ _ _ => pe_mkS T.mk_Work F_Work_init (hr.mono (by decide)) rfl T.g_Work (pv 2))) rfl)
      (pss_cons (ps_fld (pv 0) pe_bl rfl)
      (pss_one (ps_fld (pv 0) (pe_lst pa_nil) rfl)))), ?_⟩
    refine ⟨_, rfl, wl, rfl, ⟨_, W.lst⟩, fun D hD => lc_list (K := K) (a := wl) (xs := ts.map V.ref) (fun i H2 => ∃ was : List (Addr × Addr), H2 D = some (.lst (was.map fun p => V.ref p.1)) ∧ was.length = i ∧ Same H H2 ∧ (was.map (·.1)).Nodup ∧ (∀ a ∈ was.map (·.1), H a = none) ∧
        ∀ (j : Nat) (a dx : Addr) (k : Wk), was[j]? = some (a, dx) → ks[j]? = some k → H2 a = some (.ins (cWork K) dx (woF (k.wo none))))
      ⟨[], upd_same, rfl, Same.new (Same.refl H) hD, by simp, by simp, fun j a dx k h => by simp at h⟩ (fun i H2 _ ⟨_, _, _, s2, _⟩ => s2.seq W.lst) ?_ ?_⟩
    · rintro i x H2 hx ⟨was, h1, h2, s2, nd, hf, hw⟩
      rw [List.getElem?_map] at hx
      cases ht : ts[i]? with
      | none => rw [ht] at hx; cases hx
      | some t =>
        rw [ht] at hx
        cases hx
        have hi : i < ts.length := (List.getElem?_eq_some_iff.mp ht).1
        obtain ⟨k, hk⟩ : ∃ k, ks[i]? = some k := ⟨_, List.getElem?_eq_getElem (by rw [← W.len]; exact hi)⟩
        refine ⟨rfl, yes ?_⟩
        refine ⟨_, rfl, t, k.vs, rfl, Same.tup s2 (W.at_ i t k ht hk), fun x dx nx ndx ne => ?_⟩
        refine ⟨x, dx, k.begin, k.goal, k.many, k.block, k.greed, k.mark, k.follow, rfl, upd_same, fun H3 e3 k3 => ⟨rfl, ?_⟩⟩
        have hDx : D ≠ x := ne_of_none h1 nx
        have hDdx : D ≠ dx := ne_of_none h1 ndx
        have s3 : Same H2 H3 := fun b o e => k3 b o (by rw [upd_ne (ne_of_none e nx), upd_ne (ne_of_none e ndx)]; exact e) (by simpa using ne_of_none e nx)
        have h13 := s3 _ _ h1
        refine ⟨_, h13, ?_, was ++ [(x, dx)], ?_, by simp [h2], ?_, ?_, ?_, ?_⟩
        · rw [List.length_map, h2]
          exact Nat.lt_of_lt_of_le hi (Nat.le_trans h6 (by decide))
        · rw [upd_same, List.map_append]
          rfl
        · exact Same.new (s2.trans s3) hD
        · rw [List.map_append]
          refine List.nodup_append.mpr ⟨nd, by simp, fun a ha b hb => ?_⟩
          have eb : b = x := by simpa using hb
          subst eb
          intro z
          subst z
          obtain ⟨p, hp, e⟩ := List.mem_map.mp ha
          obtain ⟨j, hj, ej⟩ := List.mem_iff_getElem.mp hp
          obtain ⟨kj, hkj⟩ : ∃ kj, ks[j]? = some kj := ⟨_, List.getElem?_eq_getElem (by rw [← W.len]; omega)⟩
          have := hw j p.1 p.2 kj (by rw [List.getElem?_eq_getElem hj, ej]) hkj
          rw [e, nx] at this
          cases this
        · intro a ha
          rw [List.map_append] at ha
          rcases List.mem_append.mp ha with ha | ha
          · exact hf a ha
          · have ea : a = x := by simpa using ha
            rw [ea]
            exact Same.free s2 nx
        · intro j a dy kj e1 e2
          by_cases hj : j < was.length
          · rw [List.getElem?_append_left hj] at e1
            have e4 := hw j a dy kj e1 e2
            have haD : a ≠ D := by
              intro z
              rw [z, h1] at e4
              cases e4
            rw [upd_ne haD]
            exact s3 _ _ e4
          · have ej : j = was.length := by
              have := (List.getElem?_eq_some_iff.mp e1).1
              rw [List.length_append] at this
              simp at this
              omega
            subst ej
            rw [List.getElem?_append_right (Nat.le_refl _), Nat.sub_self] at e1
            have e5 : (x, dx) = (a, dy) := by simpa using e1
            cases e5
            rw [h2, hk] at e2
            cases e2
            rw [upd_ne (Ne.symm hDx)]
            exact e3
    · rintro H2 ⟨was, h1, h2, s2, nd, hf, hw⟩
      rw [List.length_map] at h2
      have e1 := s2 _ _ hself
      have hdD : d ≠ D := ne_of_none hself hD
      refine stf e1 T.cl_Device T.n_Device_works (by decide) rfl ?_
      refine stf upd_same T.cl_Device T.n_Device_took (lt1000 (by kernel_rfl)) rfl ?_
      rw [upd_upd]
      refine ⟨by show 0 ≤ sizeLine; decide, fun b hb => ?_⟩
      have bd : b ≠ d := fun z => by rw [z, upd_same] at hb; cases hb
      rw [upd_ne bd] at hb
      have nb : H b = none := Same.free s2 hb
      refine stf (by rw [upd_ne (Ne.symm bd)]; exact upd_same) T.cl_Device T.n_Device_begun (lt1000 (by kernel_rfl)) (dv_made D false b) ?_
      have Db : D ≠ b := ne_of_none h1 hb
      have had : ∀ {j : Nat} {x : Addr × Addr}, was[j]? = some x → x.1 ≠ d := fun {j x} e2 z => by
        have := hf x.1 (List.mem_map.mpr ⟨x, List.mem_of_getElem? e2, rfl⟩)
        rw [z, hself] at this
        cases this
      refine q _ ⟨d, dd, D, b, was, []⟩ rfl ⟨upd_same, ?_, ?_, fun j x k e2 e3 => ?_, fun i x e h => ?_, ?_, rfl, ⟨by simp [GH.none], fun j k i e2 e3 => ?_, fun j k e2 e3 => ?_, fun k hk => ?_, Nat.le_refl _⟩, nd, by simp, ?_⟩ (fun z hz hzd => ?_) (((Kept.same s2).put (by simp)).new nb |>.put (by simp)) (fun z hz => Same.free s2 (upd_none (upd_none (upd_none hz))))
      · show upd _ d _ D = _
        rw [upd_ne (Ne.symm hdD), upd_ne Db, upd_ne (Ne.symm hdD)]
        exact h1
      · show upd _ d _ b = some (.lst [])
        rw [upd_ne bd]
        exact upd_same
      · rw [List.getElem?_map] at e3
        cases ek : ks[j]? with
        | none => rw [ek] at e3; cases e3
        | some k0 =>
          rw [ek] at e3
          cases e3
          have e4 := hw j x.1 x.2 k0 e2 ek
          have hxd := had e2
          have eg : ∀ o : Option (Option Nat), goA ([] : List GA) o = none := fun o => by cases o with | none => rfl | some o => cases o <;> rfl
          show upd _ d _ x.1 = some (.ins (cWork K) x.2 (woF (k0.fresh.wo (goA [] _))))
          rw [eg, upd_ne hxd, upd_ne (ne_of_none e4 hb), upd_ne hxd]
          exact e4
      · simp at h
      · rw [List.length_map]
        show was.length = _
        rw [h2, W.len]
      · have e3' : (List.replicate ks.length (Option.none : Option Nat))[j]? = some (some i) := e3
        rw [List.getElem?_replicate] at e3'
        split at e3' <;> cases e3'
      · rw [List.getElem?_map] at e2
        cases ek : ks[j]? with
        | none => rw [ek] at e2; cases e2
        | some k0 =>
          rw [ek] at e2
          cases e2
          exact ⟨rfl, rfl⟩
      · obtain ⟨k0, hk0, rfl⟩ := List.mem_map.mp hk
        exact mb k0 hk0
      · show [D, b].Nodup
        simp [Db]
      · have hz' : z ∈ d :: D :: b :: (was.map (·.1) ++ ([] ++ [])) := hz
        simp only [List.mem_cons, List.append_nil] at hz'
        rcases hz' with h | h | h | h
        · exact absurd h hzd
        · rw [h]; exact hD
        · rw [h]; exact nb
        · exact hf z h
def onFrom : Nat → List Wk → List (Nat × Wk)
  | _, [] => []
  | i, k :: r => if k.on = true then (i, k) :: onFrom (i + 1) r else onFrom (i + 1) r
theorem onFrom_app : ∀ (i : Nat) (xs ys : List Wk), onFrom i (xs ++ ys) = onFrom i xs ++ onFrom (i + xs.length) ys
  | i, [], ys => by simp [onFrom]
  | i, k :: r, ys => by
    show (if k.on = true then _ :: onFrom (i + 1) (r ++ ys) else onFrom (i + 1) (r ++ ys)) = (if k.on = true then _ :: onFrom (i + 1) r else onFrom (i + 1) r) ++ _
    rw [onFrom_app (i + 1) r ys]
    have e : i + 1 + r.length = i + (k :: r).length := by simp; omega
    rw [e]
    split <;> rfl
theorem onFrom_len : ∀ (i : Nat) (ks : List Wk), (onFrom i ks).length ≤ ks.length
  | _, [] => by simp [onFrom]
  | i, k :: r => by
    have := onFrom_len (i + 1) r
    show (if k.on = true then _ :: onFrom (i + 1) r else onFrom (i + 1) r).length ≤ _
    split
    · simp only [List.length_cons]; omega
    · simp only [List.length_cons]; omega
theorem onFrom_mem : ∀ (i : Nat) (ks : List Wk) (j : Nat) (k : Wk), (j, k) ∈ onFrom i ks → i ≤ j ∧ ks[j - i]? = some k ∧ k.on = true
  | i, [], j, k, h => by simp [onFrom] at h
  | i, k0 :: r, j, k, h => by
    have h' : (j, k) ∈ (if k0.on = true then (i, k0) :: onFrom (i + 1) r else onFrom (i + 1) r) := h
    have rc2 : (j, k) ∈ onFrom (i + 1) r → i ≤ j ∧ (k0 :: r)[j - i]? = some k ∧ k.on = true := fun h2 => by
      obtain ⟨a1, a2, a3⟩ := onFrom_mem (i + 1) r j k h2
      have e : j - i = (j - (i + 1)) + 1 := by omega
      exact ⟨by omega, by rw [e]; exact a2, a3⟩
    split at h'
    · rename_i ho
      rcases List.mem_cons.mp h' with z | z
      · cases z
        exact ⟨Nat.le_refl _, by simp, ho⟩
      · exact rc2 z
    · exact rc2 h'
theorem onFrom_take {ks : List Wk} {i : Nat} {k : Wk} (hk : ks[i]? = some k) : onFrom 0 (ks.take (i + 1)) = onFrom 0 (ks.take i) ++ (if k.on = true then [(i, k)] else []) := by
  have et : ks.take (i + 1) = ks.take i ++ [k] := by
    rw [List.take_add_one, hk]
    rfl
  have hi : i < ks.length := (List.getElem?_eq_some_iff.mp hk).1
  rw [et, onFrom_app]
  have el : 0 + (ks.take i).length = i := by rw [List.length_take]; omega
  rw [el]
  rfl
def sp_Device_numbers_on (K : PySem.W.Frag) : Sp := fun vs H Q _ => ∃ (a : DA) (ks : List Wk) (took : Bool) (g : GH), vs = [.ref a.d] ∧ DevAt K H a ks took g ∧ ks.length ≤ 6 ∧
  ∀ H' D, H D = none → H' D = some (.lst ((onFrom 0 ks).map fun p => V.int (p.1 : Int))) → Same H H' → Q (.ref D) H'
theorem ok_Device_numbers_on (T : T w K mg) : FnR P w K mg base CX0 2 (He.ma K (He.ga K "Device") "numbers_on") (sp_Device_numbers_on K) := by
  have F_Device_is_on : FnR P w K mg base CX0 1 _ _ := ok_Device_is_on T
  obtain ⟨fd, F⟩ := T.f_Device_numbers_on
  refine F.r sc_Device_numbers_on (fun _ _ _ _ _ _ us hl => match us, hl with | [_], _ => rfl) (fun vs H Q E h => ?_) (fun cdv A outer s H vs Q E hr h => ?_)
  · obtain ⟨_, _, _, _, rfl, _⟩ := h
    rfl
  · obtain ⟨a, ks, took, g, rfl, D, h6, q⟩ := h
    refine ⟨_, (pss_one (ps_ret (pe_lc (own := [("number", 1)]) (g := gName 1) (tt := tB (tMethR (He.ga K "Device") "is_on" (sp_Device_is_on K) E0 (tVar 0) (tCons (tVar 1) tNil))) (te := tVar 1) rfl sc_Device_numbers_on.nd
        (pi_range1 rfl T.u_range (pa_cons (pe_callB call_len_seq rfl T.u_len PySem.boot_len (pa_cons (pe_fld (pv 0) rfl) pa_nil)) pa_nil))
        (blkOk_by (N := ["self", "number"]) (sc := defScope s_Device_numbers_on) (by decide +kernel))
        (fun _ _ _ _ _ => pg_name (i := 1) sc_Device_numbers_on.nd rfl (Or.inl rfl))
        (fun _ _ _ _ _ => pts_one (pt_val (pe_mthR (pv 0) T.cl_Device T.m_Device_is_on F_Device_is_on (hr.mono (by decide)) (pa_cons (pv 1) pa_nil))))
        (fun _ _ _ _ _ => pv 1)))), ?_⟩
    refine ⟨_, rfl, _, _, _, _, _, rfl, D.ob, T.cl_Device, T.n_Device_works, dv_works _, ?_⟩
    refine ⟨_, _, rfl, .inl (SqL.of D.lst), ?_⟩ -- len
    rw [List.length_map, D.len]
    refine ⟨(ks.length : Int), rfl, by omega, by omega, fun R hR => ?_⟩
    refine lc_it walk_range (fun i H2 => H2 R = some (.lst ((onFrom 0 (ks.take i)).map fun p => V.int (p.1 : Int))) ∧ Same H H2)
      ⟨upd_same, Same.new (Same.refl H) hR⟩ (fun i H2 _ _ => trivial) ?_ ?_
    · rintro i x H2 H3 hi ⟨hR2, s2⟩ ⟨rfl, rfl⟩
      have hi2 : i < ks.length := by omega
      obtain ⟨k, hk⟩ : ∃ k, ks[i]? = some k := ⟨_, List.getElem?_eq_getElem hi2⟩
      have D2 := D.same s2
      have et := onFrom_take hk
      refine ⟨rfl, ?_⟩
      refine ⟨_, rfl, _, _, _, rfl, D2.ob, dv_no_is_on _, ?_⟩
      refine ⟨_, rfl, ?_⟩
      refine ⟨a, ks, took, g, (i : Int), by simp, D2, by omega, ?_⟩
      refine ⟨_, rfl, ?_⟩
      have eon : isOn ks (i : Int) = k.on := by
        unfold isOn
        rw [show ((i : Int)).toNat = i from by omega, hk]
      rw [eon]
      cases hon : k.on with
      | false =>
        rw [hon] at et
        refine iteF ⟨?_, s2⟩
        rw [et]
        simpa using hR2
      | true =>
        rw [hon] at et
        refine iteT ?_
        refine ⟨_, rfl, _, hR2, ?_, ?_, ?_⟩
        · rw [List.length_map]
          have := onFrom_len 0 (ks.take i)
          rw [List.length_take] at this
          exact Nat.lt_of_le_of_lt (Nat.le_trans this (by omega : _ ≤ 6)) (by decide)
        · rw [upd_same, et, List.map_append]
          simp
        · exact Same.new s2 hR
    · rintro H2 ⟨hR2, s2⟩
      have e : ((ks.length : Int)).toNat = ks.length := by omega
      rw [e, List.take_length] at hR2
      exact q _ R hR hR2 s2
def goFrom : Nat → List Wk → List (Int × Int × Bool)
  | _, [] => []
  | i, k :: r => if k.on = true then ((i : Int), k.laid, k.hand.isSome) :: goFrom (i + 1) r else goFrom (i + 1) r
theorem goFrom_app : ∀ (i : Nat) (xs ys : List Wk), goFrom i (xs ++ ys) = goFrom i xs ++ goFrom (i + xs.length) ys
  | i, [], ys => by simp [goFrom]
  | i, k :: r, ys => by
    show (if k.on = true then _ :: goFrom (i + 1) (r ++ ys) else goFrom (i + 1) (r ++ ys)) = (if k.on = true then _ :: goFrom (i + 1) r else goFrom (i + 1) r) ++ _
    rw [goFrom_app (i + 1) r ys]
    have e : i + 1 + r.length = i + (k :: r).length := by simp; omega
    rw [e]
    split <;> rfl
def goV (g : Int × Int × Bool) : List V := [.int g.1, .int g.2.1, .bl g.2.2]
theorem goFrom_on : ∀ (i : Nat) (ks : List Wk), goFrom i ks = (onFrom i ks).map fun p => ((p.1 : Int), p.2.laid, p.2.hand.isSome)
  | _, [] => rfl
  | i, k :: r => by
    show (if k.on = true then _ :: goFrom (i + 1) r else goFrom (i + 1) r) = (if k.on = true then (i, k) :: onFrom (i + 1) r else onFrom (i + 1) r).map _
    rw [goFrom_on (i + 1) r]
    split <;> rfl
theorem goFrom_len : ∀ (i : Nat) (ks : List Wk), (goFrom i ks).length ≤ ks.length
  | _, [] => by simp [goFrom]
  | i, k :: r => by
    have := goFrom_len (i + 1) r
    show (if k.on = true then _ :: goFrom (i + 1) r else goFrom (i + 1) r).length ≤ _
    split
    · simp only [List.length_cons]; omega
    · simp only [List.length_cons]; omega
theorem oV_non {o : Option Int} : (!decide (oV o = V.non)) = o.isSome := by
  cases o <;> rfl
theorem goFromA_len : ∀ (i : Nat) (ks : List Wk), (goFrom i ks).length = (onFrom i ks).length := fun i ks => by rw [goFrom_on, List.length_map]
def sp_Device_shown_on (K : PySem.W.Frag) : Sp := fun vs H Q _ => ∃ (a : DA) (ks : List Wk) (took : Bool) (g : GH), vs = [.ref a.d] ∧ DevAt K H a ks took g ∧ ks.length ≤ 6 ∧
  ∀ H' D ps, H D = none → TupsAt H' D ps ((goFrom 0 ks).map goV) → Same H H' → Q (.ref D) H'
theorem ok_Device_shown_on (T : T w K mg) : FnR P w K mg base CX0 3 (He.ma K (He.ga K "Device") "shown_on") (sp_Device_shown_on K) := by
  have F_Device_numbers_on : FnR P w K mg base CX0 2 _ _ := ok_Device_numbers_on T
  obtain ⟨fd, F⟩ := T.f_Device_shown_on
  refine F.r sc_Device_shown_on (fun _ _ _ _ _ _ us hl => match us, hl with | [_], _ => rfl) (fun vs H Q E h => ?_) (fun cdv A outer s H vs Q E hr h => ?_)
  · obtain ⟨_, _, _, _, rfl, _⟩ := h
    rfl
  · obtain ⟨a, ks, took, g, rfl, D, h6, q⟩ := h
    refine ⟨_, (pss_cons (ps_setLc (i := 1) (own := [("number", 2)]) (g := gName 2) (tt := tYes) (te := tTup (tCons (tVar 2) (tCons (tFld K (tOp (rIxL K) (tFld K (tVar 0) "works") (tVar 2)) "going") tNil))) rfl sc_Device_shown_on.nd rfl rfl (sw_true rfl rfl rfl (by decide +kernel))
        (pi_list (pe_mth0R (pv 0) T.cl_Device T.m_Device_numbers_on F_Device_numbers_on (hr.mono (by decide))))
        (blkOk_by (N := ["self", "on", "number", "going"]) (sc := defScope s_Device_shown_on) (by decide +kernel))
        (fun _ _ _ _ _ => pg_name (i := 2) sc_Device_shown_on.nd rfl (Or.inl rfl)) (fun _ _ _ _ _ => pts_nil)
        (fun _ _ _ _ _ => pe_tup (pa_cons (pv 2) (pa_cons (pe_fld (pe_ix ix_list (pe_fld (pv 0) rfl) (pv 2) (fun _ _ => rfl)) rfl) pa_nil))))
      (pss_one (ps_ret (pe_lc (own := [("number", 2), ("going", 3)]) (g := gTup K 2 (gCons (gName 2) (gCons (gName 3) gNil))) (tt := tYes) (te := tTup (tCons (tVar 2) (tCons (tCB (fun xs H Q => ∃ p ys, xs = [.ref p] ∧ (SqL K H p ys ∨ SqT K H p ys) ∧ Q (.int ys.length) H) (tCons (tFld K (tVar 3) "puts") tNil)) (tCons (tNotN (tFld K (tVar 3) "hand")) tNil)))) rfl sc_Device_shown_on.nd (pi_list (pv 1))
        (blkOk_by (N := ["self", "on", "number", "going"]) (sc := defScope s_Device_shown_on) (by decide +kernel))
        (fun _ _ _ _ _ => pg_tup rfl (pgs_cons (pg_name (i := 2) sc_Device_shown_on.nd rfl (Or.inl rfl)) (pgs_cons (pg_name (i := 3) sc_Device_shown_on.nd rfl (Or.inl rfl)) pgs_nil)))
        (fun _ _ _ _ _ => pts_nil)
        (fun _ _ _ _ _ => pe_tup (pa_cons (pv 2) (pa_cons (pe_callB call_len_seq rfl T.u_len PySem.boot_len (pa_cons (pe_fld (pv 3) rfl) pa_nil)) (pa_cons (pe_cmp (pc_notN (pe_fld (pv 3) rfl))) pa_nil)))))))), ?_⟩
    refine ⟨_, rfl, _, _, _, rfl, D.ob, dv_no_numbers_on _, ?_⟩
    refine ⟨a, ks, took, g, rfl, D, h6, fun H1 N hN hN1 s1 => ?_⟩
    have D1 := D.same s1
    have lmem : ∀ {i : Nat} {p : Nat × Wk}, (onFrom 0 ks)[i]? = some p → ks[p.1]? = some p.2 ∧ p.2.on = true := fun {i p} h => by
      obtain ⟨_, h2, h3⟩ := onFrom_mem 0 ks p.1 p.2 (List.mem_of_getElem? h)
      exact ⟨by simpa using h2, h3⟩
    have l6 : (onFrom 0 ks).length ≤ 6 := Nat.le_trans (onFrom_len 0 ks) h6
    refine ⟨N, rfl, ⟨_, SqL.of hN1⟩, fun R hR => ?_⟩
    refine lc_list (K := K) (a := N) (xs := (onFrom 0 ks).map fun p => V.int (p.1 : Int)) (fun i H2 => ∃ ps, TupsAt H2 R ps (((onFrom 0 ks).take i).map fun p => [V.int (p.1 : Int), oA (goA a.gas g.cur[p.1]?)]) ∧ Same H1 H2)
      ⟨[], ⟨upd_same, rfl, fun j p vs e => by simp at e⟩, Same.new (Same.refl H1) hR⟩ (fun i H2 _ ⟨_, _, s2⟩ => SqL.of (s2 _ _ hN1)) ?_ ?_
    · rintro i x H2 hx ⟨ps, tp, s2⟩
      rw [List.getElem?_map] at hx
      cases ht : (onFrom 0 ks)[i]? with
      | none => rw [ht] at hx; cases hx
      | some p =>
        rw [ht] at hx
        cases hx
        obtain ⟨hk, ho⟩ := lmem ht
        have D2 := D1.same s2
        obtain ⟨x, x1, x2⟩ := D2.get hk
        have hi : i < (onFrom 0 ks).length := (List.getElem?_eq_some_iff.mp ht).1
        refine ⟨rfl, yes ?_⟩
        refine ⟨_, rfl, ?_⟩ -- number
        refine ⟨_, rfl, _, _, _, _, _, rfl, D2.ob, T.cl_Device, T.n_Device_works, dv_works _, ?_⟩
        refine ⟨_, rfl, ?_⟩ -- number
        refine ⟨_, _, _, _, rfl, rfl, SqL.of D2.lst, at_ref (n := (p.1 : Int)) (by omega) (by simpa using x1), ?_⟩
        refine ⟨_, _, _, _, _, rfl, x2, T.cl_Work, T.n_Work_going, wo_going _, ?_⟩
        refine ⟨by show 2 ≤ sizeLine; decide, fun t ht2 => ?_⟩
        have nR : R ≠ t := ne_of_none tp.lst ht2
        refine ⟨_, by rw [upd_ne nR]; exact tp.lst, ?_, ps ++ [t], ?_, ?_⟩
        · rw [List.length_map, tp.len, List.length_map, List.length_take]
          exact Nat.lt_of_le_of_lt (Nat.le_trans (Nat.min_le_right _ _) l6) (by decide)
        · rw [List.take_add_one, ht]
          show TupsAt _ R (ps ++ [t]) (((onFrom 0 ks).take i ++ [p]).map _)
          rw [List.map_append]
          have := tp.snoc (vs := [V.int (p.1 : Int), oA (goA a.gas g.cur[p.1]?)]) ht2
          rw [List.map_append] at this
          exact this
        · have nH : H1 t = none := Same.free s2 ht2
          exact Same.new (Same.new s2 nH) hR
    · rintro H2 ⟨ps, tp, s2⟩
      rw [List.length_map, List.take_length] at tp
      have D2 := D1.same s2
      refine ⟨_, rfl, R, rfl, ⟨_, SqL.of tp.lst⟩, fun R2 hR2 => ?_⟩
      refine lc_list (K := K) (a := R) (xs := ps.map V.ref) (fun i H3 => ∃ ps3, TupsAt H3 R2 ps3 (((onFrom 0 ks).take i).map fun p => goV ((p.1 : Int), p.2.laid, p.2.hand.isSome)) ∧ Same H2 H3)
        ⟨[], ⟨upd_same, rfl, fun j p vs e => by simp at e⟩, Same.new (Same.refl H2) hR2⟩ (fun i H3 _ ⟨_, _, s3⟩ => SqL.of (s3 _ _ tp.lst)) ?_ ?_
      · rintro i x H3 hx ⟨ps3, tp3, s3⟩
        rw [List.getElem?_map] at hx
        cases ht : ps[i]? with
        | none => rw [ht] at hx; cases hx
        | some t =>
          rw [ht] at hx
          cases hx
          have hi : i < (onFrom 0 ks).length := by
            have := (List.getElem?_eq_some_iff.mp ht).1
            rw [tp.len, List.length_map] at this
            exact this
          obtain ⟨p, hp⟩ : ∃ p, (onFrom 0 ks)[i]? = some p := ⟨_, List.getElem?_eq_getElem hi⟩
          obtain ⟨hk, ho⟩ := lmem hp
          have htt : H2 t = some (.tup [V.int (p.1 : Int), oA (goA a.gas g.cur[p.1]?)]) := tp.at_ i t _ ht (by rw [List.getElem?_map, hp]; rfl)
          have D3 := D2.same s3
          obtain ⟨i', e', x', y', c1, c2, c3, c4, c5, c6, c7, c8, c9, c10, c11⟩ := D3.onAt hk ho
          have eg : goA a.gas g.cur[p.1]? = some y'.g := by
            rw [c1]
            show (a.gas[i']?).map _ = _
            rw [c4]
            rfl
          rw [eg] at htt
          refine ⟨t, _, rfl, .inl (.inl (s3 _ _ htt)), rfl, _, _, rfl, _, _, rfl, rfl, rfl, yes ?_⟩
          refine ⟨_, rfl, ?_⟩ -- number
          refine ⟨_, rfl, _, _, _, _, _, rfl, c10, T.cl_Going, T.n_Going_puts, gg_puts _, ?_⟩
          refine ⟨_, _, rfl, .inl (SqL.of c11.lst), ?_⟩ -- len
          refine ⟨_, rfl, _, _, _, _, _, rfl, c10, T.cl_Going, T.n_Going_hand, gg_hand _, ?_⟩
          refine ⟨by show 3 ≤ sizeLine; decide, fun u hu => ?_⟩
          rw [oV_non]
          have el : ((y'.ps.map V.ref).length : Int) = p.2.laid := by rw [List.length_map, c11.len, List.length_map]; exact c7
          rw [el]
          have nR : R2 ≠ u := ne_of_none tp3.lst hu
          refine ⟨_, by rw [upd_ne nR]; exact tp3.lst, ?_, ps3 ++ [u], ?_, ?_⟩
          · rw [List.length_map, tp3.len, List.length_map, List.length_take]
            exact Nat.lt_of_le_of_lt (Nat.le_trans (Nat.min_le_right _ _) l6) (by decide)
          · rw [List.take_add_one, hp]
            show TupsAt _ R2 (ps3 ++ [u]) (((onFrom 0 ks).take i ++ [p]).map _)
            rw [List.map_append]
            have := tp3.snoc (vs := goV ((p.1 : Int), p.2.laid, p.2.hand.isSome)) hu
            rw [List.map_append] at this
            exact this
          · exact Same.new (Same.new s3 (Same.free s3 hu)) hR2
      · rintro H3 ⟨ps3, tp3, s3⟩
        have el : (ps.map V.ref).length = (onFrom 0 ks).length := by rw [List.length_map, tp.len, List.length_map]
        rw [el, List.take_length] at tp3
        refine q _ R2 ps3 (Same.free s1 (Same.free s2 hR2)) ?_ ((s1.trans s2).trans s3)
        rw [goFrom_on, List.map_map]
        exact tp3
end
end SB

set_option Elab.async false
set_option linter.all false
set_option maxRecDepth 100000
set_option maxHeartbeats 2000000
namespace SB
open PySem L2
inductive Row where
  | set (r n : Int) | add (r s : Int) | less (r s : Int) | get (r a : Int) | put (a r : Int) | getx (r s : Int) | putx (s r : Int) | pair (r a : Int) | lay (a r : Int) | go (t : Int) | iff (r t : Int)
  | ask (w : Int) | done (r w : Int) | mark (m : Int) | clear (m : Int) | rest (n : Int) | fin
def Row.vs : Row → List V
  | .set r n => [.str "set", .int r, .int n] | .add r s => [.str "add", .int r, .int s] | .less r s => [.str "less", .int r, .int s] | .get r a => [.str "get", .int r, .int a] | .put a r => [.str "put", .int a, .int r]
  | .getx r s => [.str "getx", .int r, .int s] | .putx s r => [.str "putx", .int s, .int r] | .pair r a => [.str "pair", .int r, .int a] | .lay a r => [.str "lay", .int a, .int r] | .go t => [.str "go", .int t]
  | .iff r t => [.str "if", .int r, .int t] | .ask w => [.str "ask", .int w] | .done r w => [.str "done", .int r, .int w] | .mark m => [.str "mark", .int m] | .clear m => [.str "clear", .int m] | .rest n => [.str "rest", .int n] | .fin => [.str "end"]
def rg (lo hi x : Int) : Prop := lo ≤ x ∧ x ≤ hi
def Row.ok (n : Nat) : Row → Prop
  | .set r x => rg 0 3 r ∧ rg 0 999 x | .add r s => rg 0 3 r ∧ rg 0 3 s | .less r s => rg 0 3 r ∧ rg 0 3 s | .get r a => rg 0 3 r ∧ rg 0 31 a | .put a r => rg 0 31 a ∧ rg 0 3 r | .getx r s => rg 0 3 r ∧ rg 0 3 s | .putx s r => rg 0 3 s ∧ rg 0 3 r
  | .pair r a => rg 0 2 r ∧ rg 0 31 a | .lay a r => rg 0 31 a ∧ rg 0 2 r | .go t => 0 ≤ t ∧ t < n | .iff r t => rg 0 3 r ∧ 0 ≤ t ∧ t < n | .ask w => rg 0 5 w | .done r w => rg 0 3 r ∧ rg 0 5 w | .mark m => rg 0 2 m | .clear m => rg 0 2 m | .rest x => rg 1 9 x | .fin => True
def Row.okW (n : Nat) : Row → Prop
  | .set r x => rg 0 3 r ∧ rg 0 999 x | .add r s => rg 0 3 r ∧ rg 0 3 s | .less r s => rg 0 3 r ∧ rg 0 3 s | .get r a => rg 0 3 r ∧ rg 0 31 a | .put a r => rg 0 31 a ∧ rg 0 3 r | .getx r s => rg 0 3 r ∧ rg 0 3 s | .putx s r => rg 0 3 s ∧ rg 0 3 r
  | .pair r a => rg 0 2 r ∧ rg 0 31 a | .lay a r => rg 0 31 a ∧ rg 0 2 r | .go t => 0 ≤ t ∧ t < n | .iff r t => rg 0 3 r ∧ 0 ≤ t ∧ t < n | .ask w => rg 0 5 w | .done r w => rg 0 3 r ∧ rg 0 5 w | .mark m => rg 0 2 m | .clear m => rg 0 2 m | .rest x => rg 1 40 x | .fin => True
theorem Row.ok.w {r : Row} {n : Nat} (h : r.ok n) : r.okW n := by
  cases r with
  | rest x => exact ⟨h.1, Int.le_trans h.2 (by decide)⟩
  | _ => exact h
def Row.beats : Row → Int
  | .rest n => n | .pair _ _ => 2 | .lay _ _ => 2 | _ => 1
def Row.word (spent : Int) (cells : List Int) : Row → Option (Str × Int × Int)
  | .get r a => some ("get", a, r) | .put a r => some ("put", a, r) | .getx r s => some ("get", cells.getD s.toNat 0, r) | .putx s r => some ("put", cells.getD s.toNat 0, r)
  | .pair r a => some ("get", a + spent, r + spent) | .lay a r => some ("put", a + spent, r + spent) | _ => none
section
variable {K : PySem.W.Frag} {σ : L2.St} {H : Hp} {D : Ends} {t : Addr} {xs : List V} {n i j : Nat} {tq : TPats} {b : TS} {u : TMc} {x y : Str} {a c : V} {tp : TPat}
theorem iteP {c A B : Prop} [Decidable c] (hc : c) (h : A) : if c then A else B := by rw [if_pos hc]; exact h
theorem tm_len (ht : SqT K H t xs) (hn : xs.length ≠ n) (q : u (.ref t) D σ H) : tmCons (tpSeq K n tq) b u (.ref t) D σ H := ⟨t, xs, rfl, ht, by rw [if_neg hn]; exact q⟩
theorem tm_str (ht : SqT K H t (.str y :: xs)) (hn : xs.length + 1 = n) (hy : y ≠ x) (q : u (.ref t) D σ H) : tmCons (tpSeq K n (tqCons (tpStr x) tq)) b u (.ref t) D σ H :=
  ⟨t, _, rfl, ht, by
    rw [if_pos (by simpa using hn)]
    refine ⟨_, _, rfl, rfl, ?_⟩
    rw [if_neg (fun z => hy (V.str.inj z))]
    exact q⟩
theorem tm_hit0 (ht : SqT K H t [.str x]) (q : b D σ H) : tmCons (tpSeq K 1 (tqCons (tpStr x) tqNil)) b u (.ref t) D σ H :=
  ⟨t, _, rfl, ht, by
    refine iteP rfl ?_
    refine ⟨_, _, rfl, rfl, ?_⟩
    rw [if_pos rfl]
    exact q⟩
theorem tm_hit1 (ht : SqT K H t [.str x, a]) (q : b D (bindAll [(i, a)] σ) H) : tmCons (tpSeq K 2 (tqCons (tpStr x) (tqCons (tpName i) tqNil))) b u (.ref t) D σ H :=
  ⟨t, _, rfl, ht, by
    refine iteP rfl ?_
    refine ⟨_, _, rfl, rfl, ?_⟩
    rw [if_pos rfl]
    exact ⟨_, _, rfl, q⟩⟩
theorem tm_hit2 (ht : SqT K H t [.str x, a, c]) (q : b D (bindAll [(i, a), (j, c)] σ) H) : tmCons (tpSeq K 3 (tqCons (tpStr x) (tqCons (tpName i) (tqCons (tpName j) tqNil)))) b u (.ref t) D σ H :=
  ⟨t, _, rfl, ht, by
    refine iteP rfl ?_
    refine ⟨_, _, rfl, rfl, ?_⟩
    rw [if_pos rfl]
    exact ⟨_, _, rfl, _, _, rfl, q⟩⟩
end
section
variable {P : Program} {w : World} {K : PySem.W.Frag} {mg : Str → Option Value} {base : Heap}
def sp_beats_of (K : PySem.W.Frag) : Sp := fun vs H Q _ => ∃ (t : Addr) (r : Row), vs = [.ref t] ∧ SqT K H t r.vs ∧ ∀ H', Same H H' → Q (.int r.beats) H'
theorem ok_beats_of (T : T w K mg) : FnR P w K mg base CX0 1 (He.ga K "beats_of") (sp_beats_of K) := by
  obtain ⟨fd, F⟩ := T.f_beats_of
  refine F.r sc_beats_of (fun _ _ _ _ _ _ us hl => match us, hl with | [_], _ => rfl) (fun vs H Q E h => ?_) (fun cdv A outer s H vs Q E hr h => ?_)
  · obtain ⟨_, _, rfl, _⟩ := h
    rfl
  · obtain ⟨t, r, rfl, ht, q⟩ := h
    refine ⟨_, (pss_cons (ps_if (pt_cmpR op_eq (pe_ix ix_tup (pv 0) pe_int (fun _ _ => rfl)) pe_str (nomark _))
      (pss_one (ps_ret (pe_ix ix_tup (pv 0) pe_int (fun _ _ => rfl))))
      pss_nil)
      (pss_one (ps_ret (pe_ifExp (pt_cmpR op_in_seq (pe_ix ix_tup (pv 0) pe_int (fun _ _ => rfl)) (pe_tup (pa_cons pe_str (pa_cons pe_str pa_nil))) rfl) pe_int pe_int)))), ?_⟩
    refine ⟨_, rfl, ?_⟩ -- row
    cases r
    case rest n =>
      refine ⟨_, _, _, _, rfl, rfl, ht, rfl, ?_⟩
      refine ⟨rfl, ?_⟩
      refine ⟨_, rfl, ?_⟩
      refine iteT ?_
      refine ⟨_, rfl, ?_⟩ -- row
      refine ⟨_, _, _, _, rfl, rfl, ht, rfl, ?_⟩ -- row[1]
      exact q _ (Same.refl H)
    all_goals
      refine ⟨_, _, _, _, rfl, rfl, ht, rfl, ?_⟩
      refine ⟨rfl, ?_⟩
      refine ⟨_, rfl, ?_⟩
      rw [dec_str, decide_eq_false (by decide +kernel)]
      refine iteF ?_
      refine ⟨_, rfl, ?_⟩ -- row
      refine ⟨_, _, _, _, rfl, rfl, ht, rfl, ?_⟩ -- row[0]
      refine ⟨by show 2 ≤ sizeLine; decide, fun p hp => ?_⟩
      refine ⟨_, _, rfl, .inr (.inl (.inl upd_same)), rfl, rfl, ?_⟩
      refine ⟨_, rfl, ?_⟩ -- test
      first
        | exact iteT (q _ (Same.new (Same.refl H) hp))
        | exact iteF (q _ (Same.new (Same.refl H) hp))
        | skip
def Wtd (H H' : Hp) (v : V) : Option (Str × Int × Int) → Prop
  | none => v = .non
  | some (z, p, c) => ∃ q, v = .ref q ∧ H q = none ∧ H' q = some (.tup [.str z, .int p, .int c])
def sp_word_of (K : PySem.W.Frag) : Sp := fun vs H Q _ => ∃ (t c : Addr) (r : Row) (n : Nat) (spent : Int) (cells : List Int), vs = [.ref t, .int spent, .ref c] ∧ SqT K H t r.vs ∧ r.okW n ∧ H c = some (.lst (cells.map V.int)) ∧ cells.length = 4 ∧
  ∀ H' v, Same H H' → Wtd H H' v (r.word spent cells) → Q v H'
theorem ok_word_of (T : T w K mg) : FnR P w K mg base CX0 1 (He.ga K "word_of") (sp_word_of K) := by
  obtain ⟨fd, F⟩ := T.f_word_of
  refine F.r sc_word_of (fun _ _ _ _ _ _ us hl => match us, hl with | [_, _, _], _ => rfl) (fun vs H Q E h => ?_) (fun cdv A outer s H vs Q E hr h => ?_)
  · obtain ⟨_, _, _, _, _, _, rfl, _⟩ := h
    rfl
  · obtain ⟨t, c, r, n, spent, cells, rfl, ht, hok, hc, hl, q⟩ := h
    refine ⟨_, (pss_cons (ps_match (pv 0) (pm_cons sc_word_of.nd (pp_seq rfl (pq_cons pp_str (pq_cons (pp_name (i := 3) rfl (Or.inl rfl)) (pq_cons (pp_name (i := 4) rfl (Or.inl rfl)) pq_nil)))) (pss_one (ps_ret (pe_tup (pa_cons pe_str (pa_cons (pv 4) (pa_cons (pv 3) pa_nil))))))
      (pm_cons sc_word_of.nd (pp_seq rfl (pq_cons pp_str (pq_cons (pp_name (i := 4) rfl (Or.inl rfl)) (pq_cons (pp_name (i := 3) rfl (Or.inl rfl)) pq_nil)))) (pss_one (ps_ret (pe_tup (pa_cons pe_str (pa_cons (pv 4) (pa_cons (pv 3) pa_nil))))))
      (pm_cons sc_word_of.nd (pp_seq rfl (pq_cons pp_str (pq_cons (pp_name (i := 3) rfl (Or.inl rfl)) (pq_cons (pp_name (i := 5) rfl (Or.inl rfl)) pq_nil)))) (pss_one (ps_ret (pe_tup (pa_cons pe_str (pa_cons (pe_ix ix_list (pv 2) (pv 5) (fun _ _ => rfl)) (pa_cons (pv 3) pa_nil))))))
      (pm_cons sc_word_of.nd (pp_seq rfl (pq_cons pp_str (pq_cons (pp_name (i := 5) rfl (Or.inl rfl)) (pq_cons (pp_name (i := 3) rfl (Or.inl rfl)) pq_nil)))) (pss_one (ps_ret (pe_tup (pa_cons pe_str (pa_cons (pe_ix ix_list (pv 2) (pv 5) (fun _ _ => rfl)) (pa_cons (pv 3) pa_nil))))))
      (pm_cons sc_word_of.nd (pp_seq rfl (pq_cons pp_str (pq_cons (pp_name (i := 3) rfl (Or.inl rfl)) (pq_cons (pp_name (i := 4) rfl (Or.inl rfl)) pq_nil)))) (pss_one (ps_ret (pe_tup (pa_cons pe_str (pa_cons (pe_op op_add (pv 4) (pv 1)) (pa_cons (pe_op op_add (pv 3) (pv 1)) pa_nil))))))
      (pm_cons sc_word_of.nd (pp_seq rfl (pq_cons pp_str (pq_cons (pp_name (i := 4) rfl (Or.inl rfl)) (pq_cons (pp_name (i := 3) rfl (Or.inl rfl)) pq_nil)))) (pss_one (ps_ret (pe_tup (pa_cons pe_str (pa_cons (pe_op op_add (pv 4) (pv 1)) (pa_cons (pe_op op_add (pv 3) (pv 1)) pa_nil))))))
      pm_nil)))))))
      (pss_one (ps_ret pe_non))), ?_⟩
    have three : ([V.non, .non, .non] : List V).length ≤ sizeLine := by show 3 ≤ sizeLine; decide
    cases r
    all_goals
      have ht2 := ht
      refine ⟨_, rfl, ?_⟩
      repeat (first | refine tm_hit2 ht2 ?_ | refine tm_len ht2 (Nat.ne_of_beq_eq_false rfl) ?_ | refine tm_str ht2 rfl (by decide +kernel) ?_)
    case get r a =>
      exact ⟨_, rfl, _, rfl, three, fun p hp => q _ _ (Same.new (Same.refl H) hp) ⟨p, rfl, hp, upd_same⟩⟩
    case put a r =>
      exact ⟨_, rfl, _, rfl, three, fun p hp => q _ _ (Same.new (Same.refl H) hp) ⟨p, rfl, hp, upd_same⟩⟩
    case getx r x =>
      exact ⟨_, rfl, _, rfl, _, _, _, _, rfl, rfl, SqL.of hc, at_int hok.2.1 (by have := hok.2.2; omega), _, rfl, three, fun p hp => q _ _ (Same.new (Same.refl H) hp) ⟨p, rfl, hp, upd_same⟩⟩
    case putx x r =>
      exact ⟨_, rfl, _, rfl, _, _, _, _, rfl, rfl, SqL.of hc, at_int hok.1.1 (by have := hok.1.2; omega), _, rfl, three, fun p hp => q _ _ (Same.new (Same.refl H) hp) ⟨p, rfl, hp, upd_same⟩⟩
    case pair r a =>
      exact ⟨_, rfl, _, rfl, _, _, rfl, rfl, _, rfl, _, rfl, _, _, rfl, rfl, three, fun p hp => q _ _ (Same.new (Same.refl H) hp) ⟨p, rfl, hp, upd_same⟩⟩
    case lay a r =>
      exact ⟨_, rfl, _, rfl, _, _, rfl, rfl, _, rfl, _, rfl, _, _, rfl, rfl, three, fun p hp => q _ _ (Same.new (Same.refl H) hp) ⟨p, rfl, hp, upd_same⟩⟩
    all_goals exact q H .non (Same.refl H) rfl
end
end SB

set_option Elab.async false
set_option linter.all false
set_option maxRecDepth 100000
set_option maxHeartbeats 2000000
namespace SB
open PySem L2
structure MS where
  cells : List Int
  marks : List Bool
  row : Int
  spent : Int
structure ProgAt (K : PySem.W.Frag) (H : Hp) (pa : Addr) (rs : List Addr) (prog : List Row) : Prop where
  tup : SqT K H pa (rs.map V.ref)
  len : rs.length = prog.length
  at_ : ∀ (j : Nat) (t : Addr) (r : Row), rs[j]? = some t → prog[j]? = some r → SqT K H t r.vs
structure McAt (K : PySem.W.Frag) (H : Hp) (m dm pa : Addr) (rs : List Addr) (prog : List Row) (c k : Addr) (S : MS) : Prop where
  ob : H m = some (.ins (cMachine K) dm (mcF ⟨pa, c, k, S.row, S.spent⟩))
  pr : ProgAt K H pa rs prog
  hc : H c = some (.lst (S.cells.map V.int))
  hk : H k = some (.lst (S.marks.map V.bl))
  ck : c ≠ k
structure MOk (prog : List Row) (S : MS) : Prop where
  c4 : S.cells.length = 4
  m3 : S.marks.length = 3
  row0 : 0 ≤ S.row
  rown : S.row ≤ prog.length
  sp0 : 0 ≤ S.spent
  sp1 : ∀ r, prog[S.row.toNat]? = some r → S.spent < r.beats
  rows : ∀ r ∈ prog, r.okW prog.length
def wantedOf (prog : List Row) (S : MS) : Option (Str × Int × Int) := match prog[S.row.toNat]? with
  | none => none
  | some r => r.word S.spent S.cells
theorem tup_keep {K : PySem.W.Frag} {H H' : Hp} {as : List Addr} {a : Addr} {xs : List V} (h : SqT K H a xs) (k : Kept as H H') (hn : ∀ b ∈ as, ∃ u, H b = some u ∧ notTup u = true) : SqT K H' a xs := by
  rcases h with (h | ⟨o, h⟩) | h
  · refine .inl (.inl (k _ _ h fun m => ?_))
    obtain ⟨u, e, z⟩ := hn a m
    rw [h] at e
    cases e
    cases z
  · refine .inl (.inr ⟨o, k _ _ h fun m => ?_⟩)
    obtain ⟨u, e, z⟩ := hn a m
    rw [h] at e
    cases e
    cases z
  · exact .inr h
theorem ProgAt.keep {K : PySem.W.Frag} {H H' : Hp} {as : List Addr} {pa : Addr} {rs : List Addr} {prog : List Row} (h : ProgAt K H pa rs prog) (k : Kept as H H') (hn : ∀ b ∈ as, ∃ u, H b = some u ∧ notTup u = true) : ProgAt K H' pa rs prog :=
  ⟨tup_keep h.tup k hn, h.len, fun j t r e1 e2 => tup_keep (h.at_ j t r e1 e2) k hn⟩
theorem ProgAt.same {K : PySem.W.Frag} {H H' : Hp} {pa : Addr} {rs : List Addr} {prog : List Row} (h : ProgAt K H pa rs prog) (s : Same H H') : ProgAt K H' pa rs prog := h.keep (Kept.same (as := []) s) (by simp)
theorem ProgAt.get {K : PySem.W.Frag} {H : Hp} {pa : Addr} {rs : List Addr} {prog : List Row} (h : ProgAt K H pa rs prog) {j : Nat} {r : Row} (e : prog[j]? = some r) : ∃ t, rs[j]? = some t ∧ SqT K H t r.vs := by
  have h1 : j < rs.length := by rw [h.len]; exact (List.getElem?_eq_some_iff.mp e).1
  exact ⟨_, List.getElem?_eq_getElem h1, h.at_ j _ r (List.getElem?_eq_getElem h1) e⟩
theorem at_rf {rs : List Addr} {n : Int} {t : Addr} (h0 : 0 ≤ n) (h : rs[n.toNat]? = some t) : atI (rs.map V.ref) n = some (.ref t) := by
  unfold atI ixN
  have h1 : n.toNat < rs.length := (List.getElem?_eq_some_iff.mp h).1
  rw [if_pos h0, List.length_map, if_pos (by omega)]
  show (rs.map _)[n.toNat]? = _
  rw [List.getElem?_map, h]
  rfl
theorem dec_int' {x y : Int} : decide (V.int x = V.int y) = decide (x = y) := by
  by_cases z : x = y
  · rw [decide_eq_true z, decide_eq_true (by rw [z])]
  · rw [decide_eq_false z, decide_eq_false (fun y => z (V.int.inj y))]
def orS : List Str → TPat
  | [] => tpNo
  | a :: r => tpElse (tpStr a) (orS r)
section
variable {K : PySem.W.Frag} {σ : L2.St} {H : Hp} {D : Ends} {t : Addr} {i j : Nat} {b : TS} {u : TMc} {y : Str} {a c : V}
theorem orS_yes {Q : Bd → Hp → Prop} : ∀ {l : List Str}, y ∈ l → Q (some []) H → orS l (.str y) σ H Q
  | [], h, _ => by cases h
  | x :: r, h, q => by
    refine ⟨rfl, ?_⟩
    by_cases e : y = x
    · rw [if_pos (by rw [e])]
      exact q
    · rw [if_neg (fun z => e (V.str.inj z))]
      exact orS_yes (by
        rcases List.mem_cons.mp h with z | z
        · exact absurd z e
        · exact z) q
theorem orS_no {Q : Bd → Hp → Prop} : ∀ {l : List Str}, y ∉ l → Q none H → orS l (.str y) σ H Q
  | [], _, q => q
  | x :: r, h, q => by
    refine ⟨rfl, ?_⟩
    rw [if_neg (fun z => h (by rw [V.str.inj z]; exact List.mem_cons_self))]
    exact orS_no (fun z => h (List.mem_cons_of_mem _ z)) q
theorem tm_or2 {l : List Str} (ht : SqT K H t [.str y, a, c]) (hy : y ∈ l) (q : b D (bindAll [(i, a), (j, c)] σ) H) : tmCons (tpSeq K 3 (tqCons (tpOr (orS l)) (tqCons (tpName i) (tqCons (tpName j) tqNil)))) b u (.ref t) D σ H :=
  ⟨t, _, rfl, ht, iteP rfl ⟨_, _, rfl, orS_yes hy ⟨_, _, rfl, _, _, rfl, q⟩⟩⟩
theorem tm_or2n {l : List Str} {tq : TPats} {n : Nat} {xs : List V} (ht : SqT K H t (.str y :: xs)) (hn : xs.length + 1 = n) (hy : y ∉ l) (q : u (.ref t) D σ H) : tmCons (tpSeq K n (tqCons (tpOr (orS l)) tq)) b u (.ref t) D σ H :=
  ⟨t, _, rfl, ht, iteP (by simpa using hn) ⟨_, _, rfl, orS_no hy q⟩⟩
end
section
variable {P : Program} {w : World} {K : PySem.W.Frag} {mg : Str → Option Value} {base : Heap}
variable {H H' : Hp} {m dm pa c k : Addr} {rs : List Addr} {prog : List Row} {S : MS}
theorem McAt.same (M : McAt K H m dm pa rs prog c k S) (s : Same H H') : McAt K H' m dm pa rs prog c k S := ⟨s _ _ M.ob, M.pr.same s, s _ _ M.hc, s _ _ M.hk, M.ck⟩
def sp_Machine_ended (K : PySem.W.Frag) : Sp := fun vs H Q _ => ∃ (m dm pa c k : Addr) (rs : List Addr) (prog : List Row) (S : MS), vs = [.ref m] ∧ McAt K H m dm pa rs prog c k S ∧ Q (.bl (decide (S.row = prog.length))) H
theorem ok_Machine_ended (T : T w K mg) : FnR P w K mg base CX0 1 (He.ma K (He.ga K "Machine") "ended") (sp_Machine_ended K) := by
  obtain ⟨fd, F⟩ := T.f_Machine_ended
  refine F.r sc_Machine_ended (fun _ _ _ _ _ _ us hl => match us, hl with | [_], _ => rfl) (fun vs H Q E h => ?_) (fun cdv A outer s H vs Q E hr h => ?_)
  · obtain ⟨_, _, _, _, _, _, _, _, rfl, _⟩ := h
    rfl
  · obtain ⟨m, dm, pa, c, k, rs, prog, S, rfl, M, q⟩ := h
    refine ⟨_, (pss_one (ps_ret (pe_cmpR op_eq (pe_fld (pv 0) rfl) (pe_callB call_len_seq rfl T.u_len PySem.boot_len (pa_cons (pe_fld (pv 0) rfl) pa_nil)) (nomark _)))), ?_⟩
    refine ⟨_, rfl, _, _, _, _, _, rfl, M.ob, T.cl_Machine, T.n_Machine_row, mc_row _, ?_⟩
    refine ⟨_, rfl, _, _, _, _, _, rfl, M.ob, T.cl_Machine, T.n_Machine_program, mc_program _, ?_⟩
    refine ⟨_, _, rfl, .inr M.pr.tup, ?_⟩ -- len
    refine ⟨rfl, ?_⟩ -- self.row == len(self.program)
    rw [dec_int', List.length_map, M.pr.len]
    exact q
def sp_Machine_wanted (K : PySem.W.Frag) : Sp := fun vs H Q _ => ∃ (m dm pa c k : Addr) (rs : List Addr) (prog : List Row) (S : MS), vs = [.ref m] ∧ McAt K H m dm pa rs prog c k S ∧ MOk prog S ∧ ∀ H' v, Same H H' → Wtd H H' v (wantedOf prog S) → Q v H'
theorem ok_Machine_wanted (T : T w K mg) : FnR P w K mg base CX0 2 (He.ma K (He.ga K "Machine") "wanted") (sp_Machine_wanted K) := by
  have F_Machine_ended : FnR P w K mg base CX0 1 _ _ := ok_Machine_ended T
  have F_word_of : FnR P w K mg base CX0 1 _ _ := ok_word_of T
  obtain ⟨fd, F⟩ := T.f_Machine_wanted
  refine F.r sc_Machine_wanted (fun _ _ _ _ _ _ us hl => match us, hl with | [_], _ => rfl) (fun vs H Q E h => ?_) (fun cdv A outer s H vs Q E hr h => ?_)
  · obtain ⟨_, _, _, _, _, _, _, _, rfl, _⟩ := h
    rfl
  · obtain ⟨m, dm, pa, c, k, rs, prog, S, rfl, M, O, q⟩ := h
    refine ⟨_, (pss_cons (ps_if (pt_val (pe_mth0R (pv 0) T.cl_Machine T.m_Machine_ended F_Machine_ended (hr.mono (by decide))))
      (pss_one (ps_ret pe_non))
      pss_nil)
      (pss_one (ps_ret (pe_callR F_word_of (hr.mono (by decide)) rfl T.g_word_of T.k_word_of (pa_cons (pe_ix ix_tup (pe_fld (pv 0) rfl) (pe_fld (pv 0) rfl) (fun _ _ => rfl)) (pa_cons (pe_fld (pv 0) rfl) (pa_cons (pe_fld (pv 0) rfl) pa_nil))))))), ?_⟩
    refine ⟨_, rfl, ?_⟩ -- self
    refine ⟨_, _, _, rfl, M.ob, mc_no_ended _, ?_⟩
    refine ⟨m, dm, pa, c, k, rs, prog, S, rfl, M, ?_⟩ -- self.ended()
    refine ⟨_, rfl, ?_⟩ -- test
    have r0 := O.row0
    have rn := O.rown
    unfold wantedOf at q
    refine ite2 (fun c1 => ?_) (fun c1 => ?_) -- if self.ended()
    · have c2 : S.row = prog.length := of_decide_eq_true c1
      have e1 : prog[S.row.toNat]? = none := List.getElem?_eq_none (by omega)
      rw [e1] at q
      exact q H _ (Same.refl H) rfl
    · have c2 : ¬ S.row = prog.length := fun z => c1 (decide_eq_true z)
      have e1 : prog[S.row.toNat]? = some prog[S.row.toNat] := List.getElem?_eq_getElem (by omega)
      rw [e1] at q
      obtain ⟨t, e2, e3⟩ := M.pr.get e1
      refine ⟨_, rfl, _, _, _, _, _, rfl, M.ob, T.cl_Machine, T.n_Machine_program, mc_program _, ?_⟩
      refine ⟨_, rfl, _, _, _, _, _, rfl, M.ob, T.cl_Machine, T.n_Machine_row, mc_row _, ?_⟩
      refine ⟨_, _, _, _, rfl, rfl, M.pr.tup, at_rf r0 e2, ?_⟩ -- self.program[self.row]
      refine ⟨_, rfl, _, _, _, _, _, rfl, M.ob, T.cl_Machine, T.n_Machine_spent, mc_spent _, ?_⟩
      refine ⟨_, rfl, _, _, _, _, _, rfl, M.ob, T.cl_Machine, T.n_Machine_cells, mc_cells _, ?_⟩
      exact ⟨t, c, _, prog.length, S.spent, S.cells, rfl, e3, O.rows _ (List.mem_of_getElem? e1), M.hc, O.c4, q⟩
def useW (z : Str) (p cl : Int) (cells ws : List Int) : List Int × List Int × Int × Int :=
  if z = "get" then (cells.set cl.toNat (ws.getD (p % ws.length).toNat 0), ws, p % ws.length, ws.getD (p % ws.length).toNat 0)
  else (cells, ws.set (p % ws.length).toNat (cells.getD cl.toNat 0), p % ws.length, cells.getD cl.toNat 0)
def sp_Machine_use_word (K : PySem.W.Frag) : Sp := fun vs H Q _ => ∃ (m dm pa c k wq lw : Addr) (row spent : Int) (cells ws : List Int) (z : Str) (p cl : Int), vs = [.ref m, .ref wq, .ref lw] ∧ H m = some (.ins (cMachine K) dm (mcF ⟨pa, c, k, row, spent⟩)) ∧
  H c = some (.lst (cells.map V.int)) ∧ H lw = some (.lst (ws.map V.int)) ∧ SqT K H wq [.str z, .int p, .int cl] ∧ c ≠ lw ∧ 0 < ws.length ∧ 0 ≤ cl ∧ cl < cells.length ∧
  ∀ H' q, H q = none → H' q = some (.tup [.str z, .int (useW z p cl cells ws).2.2.1, .int (useW z p cl cells ws).2.2.2]) → H' c = some (.lst ((useW z p cl cells ws).1.map V.int)) → H' lw = some (.lst ((useW z p cl cells ws).2.1.map V.int)) → Kept [c, lw] H H' → Q (.ref q) H'
theorem ok_Machine_use_word (T : T w K mg) : FnR P w K mg base CX0 1 (He.ma K (He.ga K "Machine") "use_word") (sp_Machine_use_word K) := by
  obtain ⟨fd, F⟩ := T.f_Machine_use_word
  refine F.r sc_Machine_use_word (fun _ _ _ _ _ _ us hl => match us, hl with | [_, _, _], _ => rfl) (fun vs H Q E h => ?_) (fun cdv A outer s H vs Q E hr h => ?_)
  · obtain ⟨_, _, _, _, _, _, _, _, _, _, _, _, _, _, rfl, _⟩ := h
    rfl
  · obtain ⟨m, dm, pa, c, k, wq, lw, row, spent, cells, ws, z, p, cl, rfl, hself, hc, hl, hT, hcl, hw, l0, l1, q⟩ := h
    obtain ⟨m0, m1⟩ := mod_rg (x := p) hw
    refine ⟨_, (pss_cons (ps_asg (pv 1) (pg_tup rfl (pgs_cons (pg_name (i := 3) sc_Machine_use_word.nd rfl (Or.inl rfl)) (pgs_cons (pg_name (i := 4) sc_Machine_use_word.nd rfl (Or.inl rfl)) (pgs_cons (pg_name (i := 5) sc_Machine_use_word.nd rfl (Or.inl rfl)) pgs_nil)))))
      (pss_cons (ps_set (i := 6) sc_Machine_use_word.nd rfl (Or.inl rfl) (pe_op op_mod (pv 4) (pe_callB call_len_seq rfl T.u_len PySem.boot_len (pa_cons (pv 2) pa_nil))))
      (pss_cons (ps_if (pt_cmpR op_eq (pv 3) pe_str (nomark _))
      (pss_one (ps_asg (pe_ix ix_list (pv 2) (pv 6) (fun _ _ => rfl)) (pg_sub (pe_fld (pv 0) rfl) (pv 5) set_list)))
      (pss_one (ps_asg (pe_ix ix_list (pe_fld (pv 0) rfl) (pv 5) (fun _ _ => rfl)) (pg_sub (pv 2) (pv 6) set_list))))
      (pss_one (ps_ret (pe_tup (pa_cons (pv 3) (pa_cons (pv 6) (pa_cons (pe_ix ix_list (pv 2) (pv 6) (fun _ _ => rfl)) pa_nil))))))))), ?_⟩
    refine ⟨_, rfl, ?_⟩ -- wanted
    refine ⟨_, _, rfl, hT, rfl, _, _, rfl, _, _, rfl, _, _, rfl, rfl, ?_⟩ -- deed, place, cell = wanted
    refine ⟨_, rfl, ?_⟩ -- place
    refine ⟨_, rfl, ?_⟩ -- words
    refine ⟨_, _, rfl, .inl (SqL.of hl), ?_⟩ -- len
    rw [List.length_map]
    refine ⟨_, _, rfl, rfl, (by omega), ?_⟩ -- place % len(words)
    refine ⟨_, rfl, ?_⟩ -- deed
    refine ⟨rfl, ?_⟩ -- deed == 'get'
    refine ⟨_, rfl, ?_⟩ -- test
    rw [dec_str]
    have three : ([V.non, .non, .non] : List V).length ≤ sizeLine := by show 3 ≤ sizeLine; decide
    by_cases g : z = "get"
    · rw [decide_eq_true g]
      have eu : useW z p cl cells ws = (cells.set cl.toNat (ws.getD (p % ws.length).toNat 0), ws, p % ws.length, ws.getD (p % ws.length).toNat 0) := by unfold useW; rw [if_pos g]
      rw [eu] at q
      refine iteT ?_
      refine ⟨_, rfl, ?_⟩ -- words
      refine ⟨_, rfl, ?_⟩ -- address
      refine ⟨_, _, _, _, rfl, rfl, SqL.of hl, at_int m0 m1, ?_⟩ -- words[address]
      refine ⟨_, rfl, _, _, _, _, _, rfl, hself, T.cl_Machine, T.n_Machine_cells, mc_cells _, ?_⟩
      refine ⟨_, rfl, ?_⟩ -- cell
      refine ⟨_, _, _, _, rfl, rfl, hc, ix_ok l0 (by rw [List.length_map]; exact l1), ?_⟩ -- self.cells[cell] = words[address]
      rw [set_int]
      have hl2 : upd H c (.lst ((cells.set cl.toNat (ws.getD (p % ws.length).toNat 0)).map V.int)) lw = some (.lst (ws.map V.int)) := by rw [upd_ne (Ne.symm hcl)]; exact hl
      refine ⟨_, rfl, ?_⟩ -- deed
      refine ⟨_, rfl, ?_⟩ -- address
      refine ⟨_, rfl, ?_⟩ -- words
      refine ⟨_, rfl, ?_⟩ -- address
      refine ⟨_, _, _, _, rfl, rfl, SqL.of hl2, at_int m0 m1, ?_⟩ -- words[address]
      refine ⟨three, fun y hy => ?_⟩
      have yc : y ≠ c := fun e => by rw [e, upd_same] at hy; cases hy
      rw [upd_ne yc] at hy
      exact q _ y hy upd_same (by rw [upd_ne (Ne.symm yc)]; exact upd_same) (by rw [upd_ne (ne_of_none hl hy)]; exact hl2) (((Kept.refl _ H).put (by simp)).new hy)
    · rw [decide_eq_false g]
      have eu : useW z p cl cells ws = (cells, ws.set (p % ws.length).toNat (cells.getD cl.toNat 0), p % ws.length, cells.getD cl.toNat 0) := by unfold useW; rw [if_neg g]
      rw [eu] at q
      refine iteF ?_
      refine ⟨_, rfl, _, _, _, _, _, rfl, hself, T.cl_Machine, T.n_Machine_cells, mc_cells _, ?_⟩
      refine ⟨_, rfl, ?_⟩ -- cell
      refine ⟨_, _, _, _, rfl, rfl, SqL.of hc, at_int l0 l1, ?_⟩ -- self.cells[cell]
      refine ⟨_, rfl, ?_⟩ -- words
      refine ⟨_, rfl, ?_⟩ -- address
      refine ⟨_, _, _, _, rfl, rfl, hl, ix_ok m0 (by rw [List.length_map]; exact m1), ?_⟩ -- words[address] = self.cells[cell]
      rw [set_int]
      refine ⟨_, rfl, ?_⟩ -- deed
      refine ⟨_, rfl, ?_⟩ -- address
      refine ⟨_, rfl, ?_⟩ -- words
      refine ⟨_, rfl, ?_⟩ -- address
      have hlt : (p % ws.length).toNat < ws.length := by omega
      have hat : atI ((ws.set (p % ws.length).toNat (cells.getD cl.toNat 0)).map V.int) (p % ws.length) = some (.int (cells.getD cl.toNat 0)) := by
        rw [at_int m0 (by rw [List.length_set]; exact m1)]
        simp [List.getD, List.getElem?_set_self hlt]
      refine ⟨_, _, _, _, rfl, rfl, SqL.of upd_same, hat, ?_⟩ -- words[address]
      refine ⟨three, fun y hy => ?_⟩
      have yl : y ≠ lw := fun e => by rw [e, upd_same] at hy; cases hy
      rw [upd_ne yl] at hy
      exact q _ y hy upd_same (by rw [upd_ne (ne_of_none hc hy), upd_ne hcl]; exact hc) (by rw [upd_ne (Ne.symm yl)]; exact upd_same) (((Kept.refl _ H).put (by simp)).new hy)
def reck (z : Str) (worth other : Int) (cells : List Int) (ks : List Wk) : Int :=
  if z = "set" then other else if z = "done" then (if isOn ks other = true then 0 else 1) else if z = "add" then (worth + cells.getD other.toNat 0) % 1000 else if worth < cells.getD other.toNat 0 then 1 else 0
def sp_Machine_reckoned (K : PySem.W.Frag) : Sp := fun vs H Q _ => ∃ (m dm pa c k : Addr) (a : DA) (row spent : Int) (cells : List Int) (ks : List Wk) (took : Bool) (g : GH) (z : Str) (worth other : Int), vs = [.ref m, .str z, .int worth, .int other, .ref a.d] ∧
  H m = some (.ins (cMachine K) dm (mcF ⟨pa, c, k, row, spent⟩)) ∧ H c = some (.lst (cells.map V.int)) ∧ DevAt K H a ks took g ∧ 0 ≤ other ∧ (z = "set" ∨ z = "done" ∨ other < cells.length) ∧ Q (.int (reck z worth other cells ks)) H
theorem ok_Machine_reckoned (T : T w K mg) : FnR P w K mg base CX0 2 (He.ma K (He.ga K "Machine") "reckoned") (sp_Machine_reckoned K) := by
  have F_Device_is_on : FnR P w K mg base CX0 1 _ _ := ok_Device_is_on T
  obtain ⟨tw, g_WORTHS⟩ := T.i_WORTHS
  obtain ⟨fd, F⟩ := T.f_Machine_reckoned
  refine F.r sc_Machine_reckoned (fun _ _ _ _ _ _ us hl => match us, hl with | [_, _, _, _, _], _ => rfl) (fun vs H Q E h => ?_) (fun cdv A outer s H vs Q E hr h => ?_)
  · obtain ⟨_, _, _, _, _, _, _, _, _, _, _, _, _, _, _, rfl, _⟩ := h
    rfl
  · obtain ⟨m, dm, pa, c, k, a, row, spent, cells, ks, took, g, z, worth, other, rfl, hself, hc, D, o0, o1, q⟩ := h
    refine ⟨_, (pss_cons (ps_if (pt_cmpR op_eq (pv 1) pe_str (nomark _))
      (pss_one (ps_ret (pv 3)))
      pss_nil)
      (pss_cons (ps_if (pt_cmpR op_eq (pv 1) pe_str (nomark _))
      (pss_one (ps_ret (pe_ifExp (pt_val (pe_mthR (pv 4) T.cl_Device T.m_Device_is_on F_Device_is_on (hr.mono (by decide)) (pa_cons (pv 3) pa_nil))) pe_int pe_int)))
      pss_nil)
      (pss_cons (ps_if (pt_cmpR op_eq (pv 1) pe_str (nomark _))
      (pss_one (ps_ret (pe_op op_mod (pe_op op_add (pv 2) (pe_ix ix_list (pe_fld (pv 0) rfl) (pv 3) (fun _ _ => rfl))) (pe_glob (v := .int 1000) rfl g_WORTHS ⟨_, rfl⟩))))
      pss_nil)
      (pss_one (ps_ret (pe_ifExp (pt_cmpR op_lt (pv 2) (pe_ix ix_list (pe_fld (pv 0) rfl) (pv 3) (fun _ _ => rfl)) (nomark _)) pe_int pe_int)))))), ?_⟩
    unfold reck at q
    refine ⟨_, rfl, ?_⟩ -- deed
    refine ⟨rfl, ?_⟩ -- deed == 'set'
    refine ⟨_, rfl, ?_⟩ -- test
    rw [dec_str]
    by_cases g1 : z = "set"
    · rw [if_pos g1] at q
      rw [decide_eq_true g1]
      exact iteT ⟨_, rfl, q⟩
    · rw [if_neg g1] at q
      rw [decide_eq_false g1]
      refine iteF ?_
      refine ⟨_, rfl, ?_⟩ -- deed
      refine ⟨rfl, ?_⟩ -- deed == 'done'
      refine ⟨_, rfl, ?_⟩ -- test
      rw [dec_str]
      by_cases g2 : z = "done"
      · rw [if_pos g2] at q
        rw [decide_eq_true g2]
        refine iteT ?_
        refine ⟨_, rfl, ?_⟩ -- device
        refine ⟨_, _, _, rfl, D.ob, dv_no_is_on _, ?_⟩
        refine ⟨_, rfl, ?_⟩ -- other
        refine ⟨a, ks, took, g, other, rfl, D, o0, ?_⟩ -- device.is_on(other)
        refine ⟨_, rfl, ?_⟩ -- test
        cases ho : isOn ks other with
        | true => rw [ho] at q; exact iteT q
        | false => rw [ho] at q; exact iteF q
      · rw [if_neg g2] at q
        rw [decide_eq_false g2]
        have o2 : other < cells.length := by
          rcases o1 with y | y | y
          · exact absurd y g1
          · exact absurd y g2
          · exact y
        refine iteF ?_
        refine ⟨_, rfl, ?_⟩ -- deed
        refine ⟨rfl, ?_⟩ -- deed == 'add'
        refine ⟨_, rfl, ?_⟩ -- test
        rw [dec_str]
        by_cases g3 : z = "add"
        · rw [if_pos g3] at q
          rw [decide_eq_true g3]
          refine iteT ?_
          refine ⟨_, rfl, ?_⟩ -- worth
          refine ⟨_, rfl, _, _, _, _, _, rfl, hself, T.cl_Machine, T.n_Machine_cells, mc_cells _, ?_⟩
          refine ⟨_, rfl, ?_⟩ -- other
          refine ⟨_, _, _, _, rfl, rfl, SqL.of hc, at_int o0 o2, ?_⟩ -- self.cells[other]
          refine ⟨_, _, rfl, rfl, ?_⟩ -- worth + self.cells[other]
          exact ⟨_, _, rfl, rfl, (by show (0 : Int) < 1000; decide), q⟩ -- (worth + self.cells[other]) % WORTHS
        · rw [if_neg g3] at q
          rw [decide_eq_false g3]
          refine iteF ?_
          refine ⟨_, rfl, ?_⟩ -- worth
          refine ⟨_, rfl, _, _, _, _, _, rfl, hself, T.cl_Machine, T.n_Machine_cells, mc_cells _, ?_⟩
          refine ⟨_, rfl, ?_⟩ -- other
          refine ⟨_, _, _, _, rfl, rfl, SqL.of hc, at_int o0 o2, ?_⟩ -- self.cells[other]
          refine ⟨_, _, rfl, rfl, ?_⟩ -- worth < self.cells[other]
          refine ⟨_, rfl, ?_⟩ -- test
          refine ite2 (fun c1 => ?_) (fun c1 => ?_)
          · rw [if_pos (of_decide_eq_true c1)] at q
            exact q
          · rw [if_neg (fun y => c1 (decide_eq_true y))] at q
            exact q
end
end SB

set_option Elab.async false
set_option linter.all false
set_option maxRecDepth 100000
set_option maxHeartbeats 2000000
namespace SB
open PySem L2
def eff (n : Nat) (S : MS) (ks : List Wk) : Row → MS × List Wk
  | .go t => ({ S with row := t, spent := 0 }, ks)
  | .iff r t => ({ S with row := if S.cells.getD r.toNat 0 = 0 then S.row + 1 else t, spent := 0 }, ks)
  | .fin => ({ S with row := n, spent := 0 }, ks)
  | .ask x => ({ S with row := S.row + 1, spent := 0 }, ks.modify x.toNat Wk.start)
  | .mark x => ({ S with row := S.row + 1, spent := 0, marks := S.marks.set x.toNat true }, ks)
  | .clear x => ({ S with row := S.row + 1, spent := 0, marks := S.marks.set x.toNat false }, ks)
  | .set r x => ({ S with row := S.row + 1, spent := 0, cells := S.cells.set r.toNat (reck "set" (S.cells.getD r.toNat 0) x S.cells ks) }, ks)
  | .add r x => ({ S with row := S.row + 1, spent := 0, cells := S.cells.set r.toNat (reck "add" (S.cells.getD r.toNat 0) x S.cells ks) }, ks)
  | .less r x => ({ S with row := S.row + 1, spent := 0, cells := S.cells.set r.toNat (reck "less" (S.cells.getD r.toNat 0) x S.cells ks) }, ks)
  | .done r x => ({ S with row := S.row + 1, spent := 0, cells := S.cells.set r.toNat (reck "done" (S.cells.getD r.toNat 0) x S.cells ks) }, ks)
  | _ => ({ S with row := S.row + 1, spent := 0 }, ks)
def effG (g : GH) : Row → GH
  | .ask x => g.start x.toNat
  | _ => g
section
variable {P : Program} {w : World} {K : PySem.W.Frag} {mg : Str → Option Value} {base : Heap}
variable {H H' : Hp} {m dm pa c k : Addr} {a a' : DA} {rs : List Addr} {prog : List Row} {S : MS} {ks : List Wk} {took : Bool} {g : GH}
theorem McAt.setM (M : McAt K H m dm pa rs prog c k S) (row spent : Int) : McAt K (upd H m (.ins (cMachine K) dm (mcF ⟨pa, c, k, row, spent⟩))) m dm pa rs prog c k { S with row := row, spent := spent } := by
  have hc : c ≠ m := ne_of M.hc M.ob (by intro z; cases z)
  have hk : k ≠ m := ne_of M.hk M.ob (by intro z; cases z)
  refine ⟨upd_same, M.pr.keep (as := [m]) ((Kept.refl _ H).put (by simp)) (fun b hb => ?_), by rw [upd_ne hc]; exact M.hc, by rw [upd_ne hk]; exact M.hk, M.ck⟩
  have e : b = m := by simpa using hb
  rw [e]
  exact ⟨_, M.ob, rfl⟩
theorem McAt.setC (M : McAt K H m dm pa rs prog c k S) (cells : List Int) : McAt K (upd H c (.lst (cells.map V.int))) m dm pa rs prog c k { S with cells := cells } := by
  have hc : m ≠ c := ne_of M.ob M.hc (by intro z; cases z)
  refine ⟨by rw [upd_ne hc]; exact M.ob, M.pr.keep (as := [c]) ((Kept.refl _ H).put (by simp)) (fun b hb => ?_), upd_same, by rw [upd_ne (Ne.symm M.ck)]; exact M.hk, M.ck⟩
  have e : b = c := by simpa using hb
  rw [e]
  exact ⟨_, M.hc, rfl⟩
theorem McAt.setK (M : McAt K H m dm pa rs prog c k S) (marks : List Bool) : McAt K (upd H k (.lst (marks.map V.bl))) m dm pa rs prog c k { S with marks := marks } := by
  have hc : m ≠ k := ne_of M.ob M.hk (by intro z; cases z)
  refine ⟨by rw [upd_ne hc]; exact M.ob, M.pr.keep (as := [k]) ((Kept.refl _ H).put (by simp)) (fun b hb => ?_), by rw [upd_ne M.ck]; exact M.hc, upd_same, M.ck⟩
  have e : b = k := by simpa using hb
  rw [e]
  exact ⟨_, M.hk, rfl⟩
theorem McAt.stay (M : McAt K H m dm pa rs prog c k S) {as : List Addr} (kp : Kept as H H') (h : ∀ b ∈ [m, c, k], b ∉ as) (hn : ∀ b ∈ as, ∃ u, H b = some u ∧ notTup u = true) : McAt K H' m dm pa rs prog c k S :=
  ⟨kp _ _ M.ob (h m (by simp)), M.pr.keep kp hn, kp _ _ M.hc (h c (by simp)), kp _ _ M.hk (h k (by simp)), M.ck⟩
def sp_Machine_finish (K : PySem.W.Frag) : Sp := fun vs H Q _ => ∃ (m dm pa c k t : Addr) (a : DA) (rs : List Addr) (prog : List Row) (S : MS) (ks : List Wk) (took : Bool) (g : GH) (r : Row), vs = [.ref m, .ref t, .ref a.d] ∧
  McAt K H m dm pa rs prog c k S ∧ DevAt K H a ks took g ∧ (∀ b ∈ [m, c, k], b ∉ a.foot) ∧ SqT K H t r.vs ∧ r.okW prog.length ∧ S.cells.length = 4 ∧ S.marks.length = 3 ∧ g.G.length < g.nb + 1000 ∧
  ∀ H' a', DLe a a' → McAt K H' m dm pa rs prog c k (eff prog.length S ks r).1 → DevAt K H' a' (eff prog.length S ks r).2 took (effG g r) → Stp [m, c, k] a.foot H a'.foot H' → Q .non H'
theorem set_bl {ms : List Bool} {j : Nat} {x : Bool} : (ms.map V.bl).set j (.bl x) = (ms.set j x).map V.bl := by rw [List.map_set]
theorem ok_Machine_finish (T : T w K mg) : FnR P w K mg base CX0 4 (He.ma K (He.ga K "Machine") "finish") (sp_Machine_finish K) := by
  have F_Device_start : FnR P w K mg base CX0 3 _ _ := ok_Device_start T
  have F_Machine_reckoned : FnR P w K mg base CX0 2 _ _ := ok_Machine_reckoned T
  obtain ⟨fd, F⟩ := T.f_Machine_finish
  refine F.r sc_Machine_finish (fun _ _ _ _ _ _ us hl => match us, hl with | [_, _, _], _ => rfl) (fun vs H Q E h => ?_) (fun cdv A outer s H vs Q E hr h => ?_)
  · obtain ⟨_, _, _, _, _, _, _, _, _, _, _, _, _, _, rfl, _⟩ := h
    rfl
  · obtain ⟨m, dm, pa, c, k, t, a, rs, prog, S, ks, took, g, r, rfl, M, D, A', ht, rok, c4, m3, hgl, q⟩ := h
    have am := A' m (by simp)
    have ac := A' c (by simp)
    have ak := A' k (by simp)
    refine ⟨_, (pss_cons (ps_fld (pv 0) pe_int rfl)
      (pss_cons (ps_fldaug (pv 0) pe_int in_add)
      (pss_one (ps_match (pv 1) (pm_cons sc_Machine_finish.nd (pp_seq rfl (pq_cons pp_str (pq_cons (pp_name (i := 3) rfl (Or.inl rfl)) pq_nil))) (pss_one (ps_fld (pv 0) (pv 3) rfl))
      (pm_cons sc_Machine_finish.nd (pp_seq rfl (pq_cons pp_str (pq_cons (pp_name (i := 4) rfl (Or.inl rfl)) (pq_cons (pp_name (i := 3) rfl (Or.inl rfl)) pq_nil)))) (pss_one (ps_if (pt_cmpR op_ne (pe_ix ix_list (pe_fld (pv 0) rfl) (pv 4) (fun _ _ => rfl)) pe_int (nomark _))
      (pss_one (ps_fld (pv 0) (pv 3) rfl))
      pss_nil))
      (pm_cons sc_Machine_finish.nd (pp_seq rfl (pq_cons pp_str pq_nil)) (pss_one (ps_fld (pv 0) (pe_callB call_len_seq rfl T.u_len PySem.boot_len (pa_cons (pe_fld (pv 0) rfl) pa_nil)) rfl))
      (pm_cons sc_Machine_finish.nd (pp_seq rfl (pq_cons pp_str (pq_cons (pp_name (i := 5) rfl (Or.inl rfl)) pq_nil))) (pss_one (ps_expr (pe_mthR (pv 2) T.cl_Device T.m_Device_start F_Device_start (hr.mono (by decide)) (pa_cons (pv 5) pa_nil))))
      (pm_cons sc_Machine_finish.nd (pp_seq rfl (pq_cons pp_str (pq_cons (pp_name (i := 6) rfl (Or.inl rfl)) pq_nil))) (pss_one (ps_asg pe_bl (pg_sub (pe_fld (pv 0) rfl) (pv 6) set_list)))
      (pm_cons sc_Machine_finish.nd (pp_seq rfl (pq_cons pp_str (pq_cons (pp_name (i := 6) rfl (Or.inl rfl)) pq_nil))) (pss_one (ps_asg pe_bl (pg_sub (pe_fld (pv 0) rfl) (pv 6) set_list)))
      (pm_cons sc_Machine_finish.nd (pp_seq rfl (pq_cons (pp_or (pf_cons pp_str (pf_cons pp_str (pf_cons pp_str (pf_cons pp_str pf_nil))))) (pq_cons (pp_name (i := 4) rfl (Or.inl rfl)) (pq_cons (pp_name (i := 7) rfl (Or.inl rfl)) pq_nil)))) (pss_one (ps_asg (pe_mthR (pv 0) T.cl_Machine T.m_Machine_reckoned F_Machine_reckoned (hr.mono (by decide)) (pa_cons (pe_ix ix_tup (pv 1) pe_int (fun _ _ => rfl)) (pa_cons (pe_ix ix_list (pe_fld (pv 0) rfl) (pv 4) (fun _ _ => rfl)) (pa_cons (pv 7) (pa_cons (pv 2) pa_nil))))) (pg_sub (pe_fld (pv 0) rfl) (pv 4) set_list)))
      pm_nil))))))))))), ?_⟩
    refine stf M.ob T.cl_Machine T.n_Machine_spent (mc_len _) (mc_put_spent _ _) ?_ -- self.spent = 0
    refine augf upd_same T.cl_Machine T.n_Machine_row (mc_row _) (mc_len _) (mc_put_row _ _) ?_ -- self.row += 1
    rw [upd_upd]
    have M1 : McAt K (upd H m (.ins (cMachine K) dm (mcF ⟨pa, c, k, S.row + 1, 0⟩))) m dm pa rs prog c k { S with row := S.row + 1, spent := 0 } := M.setM _ _
    have D1 : DevAt K (upd H m (.ins (cMachine K) dm (mcF ⟨pa, c, k, S.row + 1, 0⟩))) a ks took g := D.upd M.ob rfl am
    have k1 : Kept (m :: c :: k :: a.foot) H (upd H m (.ins (cMachine K) dm (mcF ⟨pa, c, k, S.row + 1, 0⟩))) := (Kept.refl _ H).put (by simp)
    have f1 : ∀ b, upd H m (.ins (cMachine K) dm (mcF ⟨pa, c, k, S.row + 1, 0⟩)) b = none → H b = none := fun b h => upd_none h
    have ht1 : SqT K (upd H m (.ins (cMachine K) dm (mcF ⟨pa, c, k, S.row + 1, 0⟩))) t r.vs := tup_keep ht (as := [m]) ((Kept.refl _ H).put (by simp)) (fun b hb => by
      have e : b = m := by simpa using hb
      rw [e]
      exact ⟨_, M.ob, rfl⟩)
    generalize upd H m (.ins (cMachine K) dm (mcF ⟨pa, c, k, S.row + 1, 0⟩)) = H1 at M1 D1 k1 ht1 f1
    have inC : c ∈ m :: c :: k :: a.foot := by simp
    have inK : k ∈ m :: c :: k :: a.foot := by simp
    have inM : m ∈ m :: c :: k :: a.foot := by simp
    have cell : ∀ (z : Str) (r0 x : Int) (σ : L2.St), σ[0]? = some (some (.ref m)) → σ[4]? = some (some (.int r0)) → rg 0 3 r0 →
        (∀ H' a', DLe a a' → McAt K H' m dm pa rs prog c k { S with row := S.row + 1, spent := 0, cells := S.cells.set r0.toNat (reck z (S.cells.getD r0.toNat 0) x S.cells ks) } → DevAt K H' a' ks took g → Stp [m, c, k] a.foot H a'.foot H' → Q .non H') →
        gSub (tFld K (tVar 0) "cells") (tVar 4) rSetL (.int (reck z (S.cells.getD r0.toNat 0) x S.cells ks)) σ H1 (fun _ H' => Q .non H') := by
      intro z r0 x σ h0 h4 hr0 q'
      refine ⟨_, h0, _, _, _, _, _, rfl, M1.ob, T.cl_Machine, T.n_Machine_cells, mc_cells _, ?_⟩
      refine ⟨_, h4, ?_⟩
      refine ⟨_, _, _, _, rfl, rfl, M1.hc, ix_ok hr0.1 (by rw [List.length_map]; show r0 < (S.cells.length : Int); rw [c4]; have := hr0.2; omega), ?_⟩
      rw [set_int]
      exact q' _ a (DLe.refl _) (M1.setC _) (D1.upd M1.hc rfl ac) (Stp.of (k1.put inC) (fun b h => f1 b (upd_none h)))
    cases r
    all_goals
      have ht2 := ht1
      refine ⟨_, rfl, ?_⟩
      repeat (first | refine tm_hit2 ht2 ?_ | refine tm_hit1 ht2 ?_ | refine tm_hit0 ht2 ?_ | refine tm_or2 (l := ["set", "add", "less", "done"]) ht2 (by decide +kernel) ?_ | refine tm_len ht2 (Nat.ne_of_beq_eq_false rfl) ?_ | refine tm_str ht2 rfl (by decide +kernel) ?_ | refine tm_or2n (l := ["set", "add", "less", "done"]) ht2 rfl (by decide +kernel) ?_)
    case go tt =>
      refine ⟨_, rfl, stf M1.ob T.cl_Machine T.n_Machine_row (mc_len _) (mc_put_row _ _) ?_⟩
      exact q _ a (DLe.refl _) (M1.setM _ _) (D1.upd M1.ob rfl am) (Stp.of (k1.put inM) (fun b h => f1 b (upd_none h)))
    case iff r0 tt =>
      refine ⟨_, rfl, _, _, _, _, _, rfl, M1.ob, T.cl_Machine, T.n_Machine_cells, mc_cells _, ?_⟩
      refine ⟨_, rfl, ?_⟩
      refine ⟨_, _, _, _, rfl, rfl, SqL.of M1.hc, at_int rok.1.1 (by show r0 < (S.cells.length : Int); rw [c4]; have := rok.1.2; omega), ?_⟩
      refine ⟨rfl, ?_⟩
      refine ⟨_, rfl, ?_⟩
      rw [dec_int']
      by_cases e : S.cells.getD r0.toNat 0 = 0
      · rw [decide_eq_true e]
        refine iteF ?_
        have e2 : (eff prog.length S ks (.iff r0 tt)).1 = { S with row := S.row + 1, spent := 0 } := by
          show ({ S with row := if S.cells.getD r0.toNat 0 = 0 then S.row + 1 else tt, spent := 0 } : MS) = _
          rw [if_pos e]
        exact q _ a (DLe.refl _) (by rw [e2]; exact M1) D1 (Stp.of k1 f1)
      · rw [decide_eq_false e]
        refine iteT ?_
        have e2 : (eff prog.length S ks (.iff r0 tt)).1 = { S with row := tt, spent := 0 } := by
          show ({ S with row := if S.cells.getD r0.toNat 0 = 0 then S.row + 1 else tt, spent := 0 } : MS) = _
          rw [if_neg e]
        refine ⟨_, rfl, stf M1.ob T.cl_Machine T.n_Machine_row (mc_len _) (mc_put_row _ _) ?_⟩
        exact q _ a (DLe.refl _) (by rw [e2]; exact M1.setM _ _) (D1.upd M1.ob rfl am) (Stp.of (k1.put inM) (fun b h => f1 b (upd_none h)))
    case fin =>
      refine ⟨_, rfl, _, _, _, _, _, rfl, M1.ob, T.cl_Machine, T.n_Machine_program, mc_program _, ?_⟩
      refine ⟨_, _, rfl, .inr M1.pr.tup, ?_⟩
      refine stf M1.ob T.cl_Machine T.n_Machine_row (mc_len _) (mc_put_row _ _) ?_
      have el : ((rs.map V.ref).length : Int) = (prog.length : Int) := by rw [List.length_map, M1.pr.len]
      refine q _ a (DLe.refl _) ?_ (D1.upd M1.ob rfl am) (Stp.of (k1.put inM) (fun b h => f1 b (upd_none h)))
      rw [el]
      exact M1.setM _ _
    case ask x =>
      refine ⟨_, rfl, ?_⟩
      refine ⟨_, _, _, rfl, D1.ob, dv_no_start _, ?_⟩
      refine ⟨_, rfl, ?_⟩
      refine ⟨a, ks, took, g, x, rfl, D1, rok.1, hgl, fun H2 a2 ad2 D2 s2 => ?_⟩
      exact q _ a2 ad2 (M1.stay s2.kp A' D1.inF) D2 ((Stp.of k1 f1).trans (s2.more [m, c, k]))
    case mark x =>
      refine ⟨_, rfl, _, _, _, _, _, rfl, M1.ob, T.cl_Machine, T.n_Machine_marks, mc_marks _, ?_⟩
      refine ⟨_, rfl, ?_⟩
      refine ⟨_, _, _, _, rfl, rfl, M1.hk, ix_ok rok.1 (by rw [List.length_map]; show x < (S.marks.length : Int); rw [m3]; have := rok.2; omega), ?_⟩
      rw [set_bl]
      exact q _ a (DLe.refl _) (M1.setK _) (D1.upd M1.hk rfl ak) (Stp.of (k1.put inK) (fun b h => f1 b (upd_none h)))
    case clear x =>
      refine ⟨_, rfl, _, _, _, _, _, rfl, M1.ob, T.cl_Machine, T.n_Machine_marks, mc_marks _, ?_⟩
      refine ⟨_, rfl, ?_⟩
      refine ⟨_, _, _, _, rfl, rfl, M1.hk, ix_ok rok.1 (by rw [List.length_map]; show x < (S.marks.length : Int); rw [m3]; have := rok.2; omega), ?_⟩
      rw [set_bl]
      exact q _ a (DLe.refl _) (M1.setK _) (D1.upd M1.hk rfl ak) (Stp.of (k1.put inK) (fun b h => f1 b (upd_none h)))
    case set r0 x =>
      refine ⟨_, rfl, _, _, _, rfl, M1.ob, mc_no_reckoned _, ?_⟩
      refine ⟨_, rfl, _, _, _, _, rfl, rfl, ht1, rfl, ?_⟩
      refine ⟨_, rfl, _, _, _, _, _, rfl, M1.ob, T.cl_Machine, T.n_Machine_cells, mc_cells _, ?_⟩
      refine ⟨_, rfl, ?_⟩
      refine ⟨_, _, _, _, rfl, rfl, SqL.of M1.hc, at_int rok.1.1 (by show r0 < (S.cells.length : Int); rw [c4]; have := rok.1.2; omega), ?_⟩
      refine ⟨_, rfl, _, rfl, ?_⟩
      refine ⟨m, dm, pa, c, k, a, _, _, S.cells, ks, took, g, _, _, x, rfl, M1.ob, M1.hc, D1, rok.2.1, .inl rfl, ?_⟩
      exact cell _ r0 x _ rfl rfl rok.1 q
    case add r0 x =>
      refine ⟨_, rfl, _, _, _, rfl, M1.ob, mc_no_reckoned _, ?_⟩
      refine ⟨_, rfl, _, _, _, _, rfl, rfl, ht1, rfl, ?_⟩
      refine ⟨_, rfl, _, _, _, _, _, rfl, M1.ob, T.cl_Machine, T.n_Machine_cells, mc_cells _, ?_⟩
      refine ⟨_, rfl, ?_⟩
      refine ⟨_, _, _, _, rfl, rfl, SqL.of M1.hc, at_int rok.1.1 (by show r0 < (S.cells.length : Int); rw [c4]; have := rok.1.2; omega), ?_⟩
      refine ⟨_, rfl, _, rfl, ?_⟩
      refine ⟨m, dm, pa, c, k, a, _, _, S.cells, ks, took, g, _, _, x, rfl, M1.ob, M1.hc, D1, rok.2.1, .inr (.inr (by rw [c4]; have := rok.2.2; omega)), ?_⟩
      exact cell _ r0 x _ rfl rfl rok.1 q
    case less r0 x =>
      refine ⟨_, rfl, _, _, _, rfl, M1.ob, mc_no_reckoned _, ?_⟩
      refine ⟨_, rfl, _, _, _, _, rfl, rfl, ht1, rfl, ?_⟩
      refine ⟨_, rfl, _, _, _, _, _, rfl, M1.ob, T.cl_Machine, T.n_Machine_cells, mc_cells _, ?_⟩
      refine ⟨_, rfl, ?_⟩
      refine ⟨_, _, _, _, rfl, rfl, SqL.of M1.hc, at_int rok.1.1 (by show r0 < (S.cells.length : Int); rw [c4]; have := rok.1.2; omega), ?_⟩
      refine ⟨_, rfl, _, rfl, ?_⟩
      refine ⟨m, dm, pa, c, k, a, _, _, S.cells, ks, took, g, _, _, x, rfl, M1.ob, M1.hc, D1, rok.2.1, .inr (.inr (by rw [c4]; have := rok.2.2; omega)), ?_⟩
      exact cell _ r0 x _ rfl rfl rok.1 q
    case done r0 x =>
      refine ⟨_, rfl, _, _, _, rfl, M1.ob, mc_no_reckoned _, ?_⟩
      refine ⟨_, rfl, _, _, _, _, rfl, rfl, ht1, rfl, ?_⟩
      refine ⟨_, rfl, _, _, _, _, _, rfl, M1.ob, T.cl_Machine, T.n_Machine_cells, mc_cells _, ?_⟩
      refine ⟨_, rfl, ?_⟩
      refine ⟨_, _, _, _, rfl, rfl, SqL.of M1.hc, at_int rok.1.1 (by show r0 < (S.cells.length : Int); rw [c4]; have := rok.1.2; omega), ?_⟩
      refine ⟨_, rfl, _, rfl, ?_⟩
      refine ⟨m, dm, pa, c, k, a, _, _, S.cells, ks, took, g, _, _, x, rfl, M1.ob, M1.hc, D1, rok.2.1, .inr (.inl rfl), ?_⟩
      exact cell _ r0 x _ rfl rfl rok.1 q
    all_goals exact q _ a (DLe.refl _) M1 D1 (Stp.of k1 f1)
end
end SB

set_option Elab.async false
set_option linter.all false
set_option maxRecDepth 100000
set_option maxHeartbeats 2000000
namespace SB
open PySem L2
inductive MT where
  | ends | waits | goes | word (z : Str) (a x : Int)
def tick (n : Nat) (S : MS) (ks : List Wk) (r : Row) : MS × List Wk := if S.spent = r.beats then eff n S ks r else (S, ks)
def mstep (prog : List Row) (S : MS) (ks : List Wk) (took : Bool) (ws : List Int) : MS × List Wk × List Int × MT := match prog[S.row.toNat]? with
  | none => (S, ks, ws, .ends)
  | some r => match r.word S.spent S.cells with
    | none => ((tick prog.length { S with spent := S.spent + 1 } ks r).1, (tick prog.length { S with spent := S.spent + 1 } ks r).2, ws, .goes)
    | some (z, p, cl) => if took = true then (S, ks, ws, .waits) else
      ((tick prog.length { S with cells := (useW z p cl S.cells ws).1, spent := S.spent + 1 } ks r).1, (tick prog.length { S with cells := (useW z p cl S.cells ws).1, spent := S.spent + 1 } ks r).2, (useW z p cl S.cells ws).2.1, .word z (useW z p cl S.cells ws).2.2.1 (useW z p cl S.cells ws).2.2.2)
def mstepG (prog : List Row) (S : MS) (took : Bool) (g : GH) : GH := match prog[S.row.toNat]? with
  | none => g
  | some r => match r.word S.spent S.cells with
    | none => if S.spent + 1 = r.beats then effG g r else g
    | some _ => if took = true then g else if S.spent + 1 = r.beats then effG g r else g
def ToldM (H H' : Hp) (v : V) : MT → Prop
  | .ends => v = .str "ends"
  | .waits => v = .str "waits"
  | .goes => v = .str "goes"
  | .word z a x => ∃ q, v = .ref q ∧ H q = none ∧ H' q = some (.tup [.str z, .int a, .int x])
theorem word_cl {r : Row} {n : Nat} {spent : Int} {cells : List Int} {z : Str} {p cl : Int} (ok : r.okW n) (s0 : 0 ≤ spent) (s1 : spent < r.beats) (h : r.word spent cells = some (z, p, cl)) : 0 ≤ cl ∧ cl < 4 := by
  cases r <;> simp [Row.word, Row.beats, Row.okW, rg] at h ok s1 <;> omega
section
variable {P : Program} {w : World} {K : PySem.W.Frag} {mg : Str → Option Value} {base : Heap}
variable {H H' : Hp} {m dm pa c k : Addr} {a a' : DA} {rs : List Addr} {prog : List Row} {S : MS} {ks : List Wk} {took : Bool} {g : GH}
def sp_Machine_step (K : PySem.W.Frag) : Sp := fun vs H Q _ => ∃ (m dm pa c k lw : Addr) (a : DA) (rs : List Addr) (prog : List Row) (S : MS) (ks : List Wk) (took : Bool) (g : GH) (ws : List Int), vs = [.ref m, .ref lw, .ref a.d] ∧
  McAt K H m dm pa rs prog c k S ∧ MOk prog S ∧ DevAt K H a ks took g ∧ (∀ b ∈ [m, c, k], b ∉ a.foot) ∧ H lw = some (.lst (ws.map V.int)) ∧ 0 < ws.length ∧ lw ≠ c ∧ lw ≠ k ∧ lw ∉ a.foot ∧ g.G.length < g.nb + 1000 ∧
  ∀ H' a' v, DLe a a' → McAt K H' m dm pa rs prog c k (mstep prog S ks took ws).1 → DevAt K H' a' (mstep prog S ks took ws).2.1 took (mstepG prog S took g) → H' lw = some (.lst ((mstep prog S ks took ws).2.2.1.map V.int)) → Stp [m, c, k, lw] a.foot H a'.foot H' →
    ToldM H H' v (mstep prog S ks took ws).2.2.2 → Q v H'
theorem Stp.tup {X F F' : List Addr} {H H' : Hp} (s : Stp X F H F' H') (hn : ∀ b ∈ X ++ F, ∃ u, H b = some u ∧ notTup u = true) : ∀ q us, H q = some (.tup us) → H' q = some (.tup us) := fun q us h => s.kp _ _ h fun z => by
  obtain ⟨u, hu, hu2⟩ := hn q z
  rw [h] at hu
  cases hu
  cases hu2
theorem ToldM.keep {H H1 H2 : Hp} {v : V} {y : MT} (t : ToldM H H1 v y) (h : ∀ q us, H1 q = some (.tup us) → H2 q = some (.tup us)) : ToldM H H2 v y := by
  cases y with
  | word z a x =>
    obtain ⟨q, e, h1, h2⟩ := t
    exact ⟨q, e, h1, h _ _ h2⟩
  | _ => exact t
theorem mck_inF (M : McAt K H m dm pa rs prog c k S) (D : DevAt K H a ks took g) : ∀ b ∈ m :: c :: k :: a.foot, ∃ u, H b = some u ∧ notTup u = true := fun b hb => by
  simp only [List.mem_cons] at hb
  rcases hb with rfl | rfl | rfl | hb
  · exact ⟨_, M.ob, rfl⟩
  · exact ⟨_, M.hc, rfl⟩
  · exact ⟨_, M.hk, rfl⟩
  · exact D.inF b hb
theorem ok_Machine_step (T : T w K mg) : FnR P w K mg base CX0 5 (He.ma K (He.ga K "Machine") "step") (sp_Machine_step K) := by
  have F_Machine_ended : FnR P w K mg base CX0 1 _ _ := ok_Machine_ended T
  have F_Machine_wanted : FnR P w K mg base CX0 2 _ _ := ok_Machine_wanted T
  have F_Machine_use_word : FnR P w K mg base CX0 1 _ _ := ok_Machine_use_word T
  have F_Machine_finish : FnR P w K mg base CX0 4 _ _ := ok_Machine_finish T
  have F_beats_of : FnR P w K mg base CX0 1 _ _ := ok_beats_of T
  obtain ⟨fd, F⟩ := T.f_Machine_step
  refine F.r sc_Machine_step (fun _ _ _ _ _ _ us hl => match us, hl with | [_, _, _], _ => rfl) (fun vs H Q E h => ?_) (fun cdv A outer s H vs Q E hr h => ?_)
  · obtain ⟨_, _, _, _, _, _, _, _, _, _, _, _, _, _, rfl, _⟩ := h
    rfl
  · obtain ⟨m, dm, pa, c, k, lw, a, rs, prog, S, ks, took, g, ws, rfl, M, O, D, A', hlw, hw0, lc, lk, ll, hgl, q⟩ := h
    have am := A' m (by simp)
    have ac := A' c (by simp)
    have ak := A' k (by simp)
    refine ⟨_, (pss_cons (ps_if (pt_val (pe_mth0R (pv 0) T.cl_Machine T.m_Machine_ended F_Machine_ended (hr.mono (by decide))))
      (pss_one (ps_ret pe_str))
      pss_nil)
      (pss_cons (ps_set (i := 3) sc_Machine_step.nd rfl (Or.inl rfl) (pe_mth0R (pv 0) T.cl_Machine T.m_Machine_wanted F_Machine_wanted (hr.mono (by decide))))
      (pss_cons (ps_if (PW.pt (pw_and (pt_cmp (pc_notN (pv 3))) (pw_and1 (pt_val (pe_fld (pv 2) rfl)))))
      (pss_one (ps_ret pe_str))
      pss_nil)
      (pss_cons (ps_set (i := 4) sc_Machine_step.nd rfl (Or.inl rfl) (pe_ifExp (pt_cmp (pc_isN (pv 3))) pe_str (pe_mthR (pv 0) T.cl_Machine T.m_Machine_use_word F_Machine_use_word (hr.mono (by decide)) (pa_cons (pv 3) (pa_cons (pv 1) pa_nil)))))
      (pss_cons (ps_fldaug (pv 0) pe_int in_add)
      (pss_cons (ps_set (i := 5) sc_Machine_step.nd rfl (Or.inl rfl) (pe_ix ix_tup (pe_fld (pv 0) rfl) (pe_fld (pv 0) rfl) (fun _ _ => rfl)))
      (pss_cons (ps_if (pt_cmpR op_eq (pe_fld (pv 0) rfl) (pe_callR F_beats_of (hr.mono (by decide)) rfl T.g_beats_of T.k_beats_of (pa_cons (pv 5) pa_nil)) (nomark _))
      (pss_one (ps_expr (pe_mthR (pv 0) T.cl_Machine T.m_Machine_finish F_Machine_finish (hr.mono (by decide)) (pa_cons (pv 5) (pa_cons (pv 2) pa_nil)))))
      pss_nil)
      (pss_one (ps_ret (pv 4)))))))))), ?_⟩
    refine ⟨_, rfl, ?_⟩ -- self
    refine ⟨_, _, _, rfl, M.ob, mc_no_ended _, ?_⟩
    refine ⟨m, dm, pa, c, k, rs, prog, S, rfl, M, ?_⟩ -- self.ended()
    refine ⟨_, rfl, ?_⟩ -- test
    have r0 := O.row0
    have rn := O.rown
    unfold mstep mstepG at q
    refine ite2 (fun c1 => ?_) (fun c1 => ?_) -- if self.ended()
    · have c2 : S.row = prog.length := of_decide_eq_true c1
      have e1 : prog[S.row.toNat]? = none := List.getElem?_eq_none (by omega)
      rw [e1] at q
      exact q H a _ (DLe.refl _) M D hlw (Stp.refl _ _ _) rfl
    · have c2 : ¬ S.row = prog.length := fun z => c1 (decide_eq_true z)
      obtain ⟨r, e1⟩ : ∃ r, prog[S.row.toNat]? = some r := ⟨_, List.getElem?_eq_getElem (by omega)⟩
      have rok := O.rows r (List.mem_of_getElem? e1)
      simp only [e1] at q
      refine ⟨_, rfl, ?_⟩ -- self
      refine ⟨_, _, _, rfl, M.ob, mc_no_wanted _, ?_⟩
      refine ⟨m, dm, pa, c, k, rs, prog, S, rfl, M, O, fun H1 wv s1 hwv => ?_⟩ -- self.wanted()
      have ew : wantedOf prog S = r.word S.spent S.cells := by
        unfold wantedOf
        rw [e1]
      rw [ew] at hwv
      have M1 := M.same s1
      have D1 := D.same s1
      have hlw1 := s1 _ _ hlw
      /- what follows the told word -/
      have rest : ∀ (H2 : Hp) (S2 : MS) (ws2 : List Int) (tv : V) (v3 : Option V) (tt : MT), McAt K H2 m dm pa rs prog c k S2 → S2.row = S.row → S2.spent = S.spent → S2.cells.length = 4 → S2.marks.length = 3 → DevAt K H2 a ks took g → H2 lw = some (.lst (ws2.map V.int)) →
          Stp [m, c, k, lw] a.foot H a.foot H2 → ToldM H H2 tv tt →
          (∀ H' a' v, DLe a a' → McAt K H' m dm pa rs prog c k (tick prog.length { S2 with spent := S.spent + 1 } ks r).1 → DevAt K H' a' (tick prog.length { S2 with spent := S.spent + 1 } ks r).2 took (if S.spent + 1 = r.beats then effG g r else g) → H' lw = some (.lst (ws2.map V.int)) → Stp [m, c, k, lw] a.foot H a'.foot H' → ToldM H H' v tt → Q v H') →
          tSeq (sFldAug K (tVar 0) (tC (.int 1)) rAdd "spent") (tSeq (tAsg (tOp (rIxT K) (tFld K (tVar 0) "program") (tFld K (tVar 0) "row")) (gName 5)) (tSeq (tIfS (tTest (tOp rEq (tFld K (tVar 0) "spent") (tCallR (sp_beats_of K) (tCons (tVar 5) tNil))))
            (tDrop (tMethR (He.ga K "Machine") "finish" (sp_Machine_finish K) E0 (tVar 0) (tCons (tVar 5) (tCons (tVar 2) tNil)))) tNext) (tRet (tVar 4)))) { nx := fun _ H' => Q .non H', rt := Q } [some (.ref m), some (.ref lw), some (.ref a.d), v3, some tv, none] H2 := by
        intro H2 S2 ws2 tv v3 tt M2 er es c4 m3 D2 hl2 k2 htv q2
        refine augf M2.ob T.cl_Machine T.n_Machine_spent (mc_spent _) (mc_len _) (mc_put_spent _ _) ?_ -- self.spent += 1
        have M3 : McAt K (upd H2 m (.ins (cMachine K) dm (mcF ⟨pa, c, k, S2.row, S2.spent + 1⟩))) m dm pa rs prog c k { S2 with row := S2.row, spent := S2.spent + 1 } := M2.setM _ _
        have D3 : DevAt K (upd H2 m (.ins (cMachine K) dm (mcF ⟨pa, c, k, S2.row, S2.spent + 1⟩))) a ks took g := D2.upd M2.ob rfl am
        have k3 : Stp [m, c, k, lw] a.foot H a.foot (upd H2 m (.ins (cMachine K) dm (mcF ⟨pa, c, k, S2.row, S2.spent + 1⟩))) := k2.trans (Stp.of ((Kept.refl _ _).put (by simp)) (fun b h => upd_none h))
        have hl3 : upd H2 m (.ins (cMachine K) dm (mcF ⟨pa, c, k, S2.row, S2.spent + 1⟩)) lw = some (.lst (ws2.map V.int)) := by rw [upd_ne (ne_of hl2 M2.ob (by intro z; cases z))]; exact hl2
        have t3 : ToldM H (upd H2 m (.ins (cMachine K) dm (mcF ⟨pa, c, k, S2.row, S2.spent + 1⟩))) tv tt := htv.keep (fun q us h => by rw [upd_ne (ne_of h M2.ob (by intro z; cases z))]; exact h)
        show (tSeq _ _) _ _ (upd H2 m (.ins (cMachine K) dm (mcF ⟨pa, c, k, S2.row, S2.spent + 1⟩)))
        generalize upd H2 m (.ins (cMachine K) dm (mcF ⟨pa, c, k, S2.row, S2.spent + 1⟩)) = H3 at M3 D3 k3 hl3 t3
        obtain ⟨t, e2, e3⟩ := M3.pr.get e1
        refine ⟨_, rfl, _, _, _, _, _, rfl, M3.ob, T.cl_Machine, T.n_Machine_program, mc_program _, ?_⟩
        refine ⟨_, rfl, _, _, _, _, _, rfl, M3.ob, T.cl_Machine, T.n_Machine_row, mc_row _, ?_⟩
        refine ⟨_, _, _, _, rfl, rfl, M3.pr.tup, at_rf (by rw [er]; exact r0) (by rw [er]; exact e2), ?_⟩ -- self.program[self.row]
        refine ⟨_, rfl, _, _, _, _, _, rfl, M3.ob, T.cl_Machine, T.n_Machine_spent, mc_spent _, ?_⟩
        refine ⟨_, rfl, ?_⟩ -- row
        refine ⟨t, r, rfl, e3, fun H4 s4 => ?_⟩ -- beats_of(row)
        refine ⟨rfl, ?_⟩
        refine ⟨_, rfl, ?_⟩
        rw [dec_int']
        have M4 := M3.same s4
        have D4 := D3.same s4
        have hl4 := s4 _ _ hl3
        have k4 : Stp [m, c, k, lw] a.foot H a.foot H4 := k3.trans (Stp.same s4)
        have t4 : ToldM H H4 tv tt := t3.keep (fun q us h => s4 _ _ h)
        unfold tick at q2
        by_cases g1 : S2.spent + 1 = r.beats
        · rw [decide_eq_true g1]
          have g2 : ({ S2 with spent := S.spent + 1 } : MS).spent = r.beats := by show S.spent + 1 = _; rw [← es]; exact g1
          have g3 : S.spent + 1 = r.beats := g2
          rw [if_pos g2, if_pos g3] at q2
          refine iteT ?_
          refine ⟨_, rfl, ?_⟩ -- self
          refine ⟨_, _, _, rfl, M4.ob, mc_no_finish _, ?_⟩
          refine ⟨_, rfl, ?_⟩ -- row
          refine ⟨_, rfl, ?_⟩ -- device
          refine ⟨m, dm, pa, c, k, t, a, rs, prog, _, ks, took, g, r, rfl, M4, D4, A', Same.tup s4 e3, rok, c4, m3, hgl, fun H5 a5 ad5 M5 D5 k5 => ?_⟩ -- self.finish(row, device)
          refine ⟨_, rfl, ?_⟩ -- told
          have eS : ({ S2 with row := S2.row, spent := S2.spent + 1 } : MS) = { S2 with spent := S.spent + 1 } := by rw [es]
          rw [eS] at M5 D5
          refine q2 _ a5 _ ad5 M5 D5 ?_ (k4.trans (k5.mono (fun x hx => by simp only [List.mem_cons] at hx ⊢; rcases hx with h | h | h | h; exact .inl h; exact .inr (.inl h); exact .inr (.inr (.inl h)); cases h))) (t4.keep (k5.tup (mck_inF M4 D4)))
          refine k5.kp _ _ hl4 fun z => ?_
          have z' : lw ∈ m :: c :: k :: a.foot := z
          simp only [List.mem_cons] at z'
          rcases z' with h | h | h | h
          · exact (ne_of hl4 M4.ob (by intro z; cases z)) h
          · exact lc h
          · exact lk h
          · exact ll h
        · rw [decide_eq_false g1]
          have g2 : ¬ ({ S2 with spent := S.spent + 1 } : MS).spent = r.beats := by show ¬ S.spent + 1 = _; rw [← es]; exact g1
          have g3 : ¬ S.spent + 1 = r.beats := g2
          rw [if_neg g2, if_neg g3] at q2
          refine iteF ?_
          refine ⟨_, rfl, ?_⟩ -- told
          have eS : ({ S2 with row := S2.row, spent := S2.spent + 1 } : MS) = { S2 with spent := S.spent + 1 } := by rw [es]
          rw [eS] at M4
          exact q2 _ a _ (DLe.refl _) M4 D4 hl4 k4 t4
      refine ⟨_, rfl, ?_⟩ -- wanted
      cases hwd : r.word S.spent S.cells with
      | none =>
        rw [hwd] at q hwv
        have ev : wv = .non := hwv
        subst ev
        refine ⟨_, rfl, ?_⟩ -- test
        refine iteF (iteF ?_)
        refine ⟨_, rfl, ?_⟩ -- wanted
        refine ⟨_, rfl, ?_⟩ -- test
        refine iteT ?_
        exact rest H1 S ws _ _ .goes M1 rfl rfl O.c4 O.m3 D1 hlw1 (Stp.same s1) rfl q
      | some zz =>
        obtain ⟨z, p, cl⟩ := zz
        rw [hwd] at q hwv
        obtain ⟨wq, rfl, hwq, hwq1⟩ := hwv
        refine ⟨_, rfl, ?_⟩ -- test
        refine iteT ?_
        refine ⟨_, rfl, _, _, _, _, _, rfl, D1.ob, T.cl_Device, T.n_Device_took, dv_took _, ?_⟩
        refine ⟨_, rfl, ?_⟩ -- test
        cases took with
        | true =>
          refine iteT ?_
          exact q _ a _ (DLe.refl _) M1 D1 hlw1 (Stp.same s1) rfl
        | false =>
          refine iteF ?_
          obtain ⟨l0, l1⟩ := word_cl rok O.sp0 (O.sp1 r e1) hwd
          refine ⟨_, rfl, ?_⟩ -- wanted
          refine ⟨_, rfl, ?_⟩ -- test
          refine iteF ?_
          refine ⟨_, rfl, ?_⟩ -- self
          refine ⟨_, _, _, rfl, M1.ob, mc_no_use_word _, ?_⟩
          refine ⟨_, rfl, ?_⟩ -- wanted
          refine ⟨_, rfl, ?_⟩ -- words
          refine ⟨m, dm, pa, c, k, wq, lw, S.row, S.spent, S.cells, ws, z, p, cl, rfl, M1.ob, M1.hc, hlw1, .inl (.inl hwq1), Ne.symm lc, hw0, l0, by rw [O.c4]; exact l1, fun H2 y hy hy2 hc2 hl2 k2 => ?_⟩
          have k2' : Kept (m :: c :: k :: lw :: a.foot) H1 H2 := k2.mono (by
            intro z hz
            simp only [List.mem_cons] at hz ⊢
            rcases hz with h | h | h
            · exact .inr (.inl h)
            · exact .inr (.inr (.inr (.inl h)))
            · cases h)
          have mc : m ≠ c := ne_of M1.ob M1.hc (by intro z; cases z)
          have ml : m ≠ lw := ne_of M1.ob hlw1 (by intro z; cases z)
          have M2 : McAt K H2 m dm pa rs prog c k { S with cells := (useW z p cl S.cells ws).1 } :=
            ⟨k2 _ _ M1.ob (by simp [mc, ml]), M1.pr.keep k2 (fun b hb => by
              have e : b = c ∨ b = lw := by simpa using hb
              rcases e with rfl | rfl
              · exact ⟨_, M1.hc, rfl⟩
              · exact ⟨_, hlw1, rfl⟩), hc2, k2 _ _ M1.hk (by simp [Ne.symm M1.ck, Ne.symm lk]), M1.ck⟩
          have nt2 : ∀ b ∈ [c, lw], ∃ u, H1 b = some u ∧ notTup u = true := fun b hb => by
            have e : b = c ∨ b = lw := by simpa using hb
            rcases e with rfl | rfl
            · exact ⟨_, M1.hc, rfl⟩
            · exact ⟨_, hlw1, rfl⟩
          have D2 : DevAt K H2 a ks false g := D1.stay k2 (fun b hb z => by
            have e : b = c ∨ b = lw := by simpa using z
            rcases e with rfl | rfl
            · exact ac hb
            · exact ll hb) nt2
          have f2 : ∀ b, H2 b = none → H1 b = none := k2.fr (fun b hb => by
            have e : b = c ∨ b = lw := by simpa using hb
            rcases e with rfl | rfl
            · rw [hc2]; simp
            · rw [hl2]; simp)
          have uc4 : (useW z p cl S.cells ws).1.length = 4 := by
            unfold useW
            split
            · rw [List.length_set]; exact O.c4
            · exact O.c4
          exact rest H2 _ _ _ _ (.word z (useW z p cl S.cells ws).2.2.1 (useW z p cl S.cells ws).2.2.2) M2 rfl rfl uc4 O.m3 D2 hl2 ((Stp.same s1).trans (Stp.of k2' f2)) ⟨y, rfl, Same.free s1 hy, hy2⟩ q
def S0 : MS := ⟨[0, 0, 0, 0], [false, false, false], 0, 0⟩
def sp_Machine_init (K : PySem.W.Frag) : Sp := fun vs H Q _ => ∃ (m dm pa : Addr) (rs : List Addr) (prog : List Row), vs = [.ref m, .ref pa] ∧ H m = some (.ins (cMachine K) dm []) ∧ ProgAt K H pa rs prog ∧
  ∀ H' c k, McAt K H' m dm pa rs prog c k S0 → H c = none → H k = none → Kept [m] H H' → Q .non H'
theorem ok_Machine_init (T : T w K mg) : FnR P w K mg base CX0 1 (He.ma K (He.ga K "Machine") "__init__") (sp_Machine_init K) := by
  obtain ⟨t1, g_CELLS⟩ := T.i_CELLS
  obtain ⟨t2, g_MARKS⟩ := T.i_MARKS
  obtain ⟨fd, F⟩ := T.f_Machine_init
  refine F.r sc_Machine_init (fun _ _ _ _ _ _ us hl => match us, hl with | [_, _], _ => rfl) (fun vs H Q E h => ?_) (fun cdv A outer s H vs Q E hr h => ?_)
  · obtain ⟨_, _, _, _, _, rfl, _⟩ := h
    rfl
  · obtain ⟨m, dm, pa, rs, prog, rfl, hself, Pr, q⟩ := h
    refine ⟨_, (pss_cons (ps_fld (pv 0) (pv 1) rfl)
      (pss_cons (ps_fld (pv 0) (pe_op op_rep (pe_lst (pa_cons pe_int pa_nil)) (pe_glob (v := .int 4) rfl g_CELLS ⟨_, rfl⟩)) rfl)
      (pss_cons (ps_fld (pv 0) (pe_op op_rep (pe_lst (pa_cons pe_bl pa_nil)) (pe_glob (v := .int 3) rfl g_MARKS ⟨_, rfl⟩)) rfl)
      (pss_cons (ps_fld (pv 0) pe_int rfl)
      (pss_one (ps_fld (pv 0) pe_int rfl)))))), ?_⟩
    refine ⟨_, rfl, ?_⟩ -- program
    refine stf hself T.cl_Machine T.n_Machine_program (by decide) rfl ?_ -- self.program = program
    generalize e1 : upd H m (.ins (cMachine K) dm (putF "program" (V.ref pa) [])) = H1
    have h1 : H1 m = some (.ins (cMachine K) dm (putF "program" (V.ref pa) [])) := by rw [← e1]; exact upd_same
    have f1 : ∀ p, H1 p = none → H p = none := fun p hp => by
      have pm : p ≠ m := fun z => by rw [z, h1] at hp; cases hp
      rw [← e1, upd_ne pm] at hp
      exact hp
    have k1 : Kept [m] H H1 := by rw [← e1]; exact (Kept.refl _ H).put (by simp)
    refine ⟨by show 1 ≤ sizeLine; decide, fun p hp => ?_⟩ -- [0]
    refine ⟨p, 4, [.int 0], rfl, rfl, upd_same, by decide, by decide, by show 4 ≤ sizeLine; decide, fun c hc => ?_⟩ -- [0] * CELLS
    have cp : c ≠ p := fun z => by rw [z, upd_same] at hc; cases hc
    rw [upd_ne cp] at hc
    have mp : m ≠ p := ne_of_none h1 hp
    have mc : m ≠ c := ne_of_none h1 hc
    refine stf (by rw [upd_ne mc, upd_ne mp]; exact h1) T.cl_Machine T.n_Machine_cells (lt1000 (by kernel_rfl)) rfl ?_ -- self.cells = [0] * CELLS
    generalize e2 : upd (upd (upd H1 p (.lst [.int 0])) c _) m _ = H2
    have h2 : H2 m = some (.ins (cMachine K) dm (putF "cells" (V.ref c) (putF "program" (V.ref pa) []))) := by rw [← e2]; exact upd_same
    have hc2 : H2 c = some (.lst (S0.cells.map V.int)) := by rw [← e2, upd_ne (Ne.symm mc)]; exact upd_same
    have f2 : ∀ x, H2 x = none → H1 x = none := fun x hx => by
      have xm : x ≠ m := fun z => by rw [z, h2] at hx; cases hx
      have xc : x ≠ c := fun z => by rw [z, hc2] at hx; cases hx
      rw [← e2, upd_ne xm, upd_ne xc] at hx
      by_cases xp : x = p
      · rw [xp]; exact hp
      · rw [upd_ne xp] at hx; exact hx
    have k2 : Kept [m] H H2 := by rw [← e2]; exact ((k1.new (f1 p hp)).new (f1 c hc)).put (by simp)
    refine ⟨by show 1 ≤ sizeLine; decide, fun p2 hp2 => ?_⟩ -- [False]
    refine ⟨p2, 3, [.bl false], rfl, rfl, upd_same, by decide, by decide, by show 3 ≤ sizeLine; decide, fun k hk => ?_⟩ -- [False] * MARKS
    have kp : k ≠ p2 := fun z => by rw [z, upd_same] at hk; cases hk
    rw [upd_ne kp] at hk
    have mp2 : m ≠ p2 := ne_of_none h2 hp2
    have mk : m ≠ k := ne_of_none h2 hk
    have cp2 : c ≠ p2 := ne_of_none hc2 hp2
    have ck : c ≠ k := ne_of_none hc2 hk
    refine stf (by rw [upd_ne mk, upd_ne mp2]; exact h2) T.cl_Machine T.n_Machine_marks (lt1000 (by kernel_rfl)) rfl ?_ -- self.marks = [False] * MARKS
    refine stf upd_same T.cl_Machine T.n_Machine_row (lt1000 (by kernel_rfl)) rfl ?_ -- self.row = 0
    refine stf upd_same T.cl_Machine T.n_Machine_spent (lt1000 (by kernel_rfl)) (mc_made pa c k 0 0) ?_ -- self.spent = 0
    rw [upd_upd, upd_upd]
    have kf : Kept [m] H (upd (upd (upd H2 p2 (.lst [.bl false])) k (.lst (List.replicate (3 : Int).toNat [V.bl false]).flatten)) m (.ins (cMachine K) dm (mcF ⟨pa, c, k, 0, 0⟩))) := ((k2.new (f1 _ (f2 _ hp2))).new (f1 _ (f2 _ hk))).put (by simp)
    refine q _ c k ⟨upd_same, Pr.keep kf (fun b hb => ?_), ?_, ?_, ck⟩ (f1 c hc) (f1 _ (f2 _ hk)) kf
    · have e : b = m := by simpa using hb
      rw [e]
      exact ⟨_, hself, rfl⟩
    · rw [upd_ne (Ne.symm mc), upd_ne ck, upd_ne cp2]
      exact hc2
    · rw [upd_ne (Ne.symm mk), upd_same]
      rfl
end
end SB

set_option Elab.async false
set_option linter.all false
set_option maxRecDepth 100000
set_option maxHeartbeats 2000000
namespace SB
open PySem L2
def numB (v : V) (lo hi : Int) : Bool := match v with
  | .int i => decide (lo ≤ i) && decide (i ≤ hi)
  | _ => false
theorem sIx1 (n : Nat) : HT.sIx (n + 1) 0 (some 1) = 1 := by
  have := HT.sIx_nat (n + 1) 0 1
  rw [show ((1 : Nat) : Int) = 1 from rfl] at this
  rw [this]
  omega
theorem cut1 (x : V) (xs : List V) : cutV (x :: xs) (some 1) none = xs := by
  unfold cutV
  rw [List.length_cons, sIx1, HT.sIx_none]
  show xs.take (xs.length + 1 - 1) = xs
  rw [Nat.add_sub_cancel, List.take_length]
theorem at0 {α : Type} (x : α) (xs : List α) : atI (x :: xs) 0 = some x := by
  unfold atI ixN
  rw [if_pos (Int.le_refl 0), if_pos (by rw [List.length_cons]; omega)]
  rfl
section
variable {P : Program} {w : World} {K : PySem.W.Frag} {mg : Str → Option Value} {base : Heap}
def sp_is_number (K : PySem.W.Frag) : Sp := fun vs H Q _ => ∃ (v : V) (lo hi : Int) (n : String), vs = [v, .int lo, .int hi] ∧ TyN K H v n ∧ Q (.bl (numB v lo hi)) H
theorem ok_is_number (T : T w K mg) : FnR P w K mg base CX0 1 (He.ga K "is_number") (sp_is_number K) := by
  obtain ⟨fd, F⟩ := T.f_is_number
  refine F.r sc_is_number (fun _ _ _ _ _ _ us hl => match us, hl with | [_, _, _], _ => rfl) (fun vs H Q E h => ?_) (fun cdv A outer s H vs Q E hr h => ?_)
  · obtain ⟨v, lo, hi, n, rfl, _⟩ := h
    rfl
  · obtain ⟨v, lo, hi, n, rfl, hv, k⟩ := h
    refine ⟨_, (pss_one (ps_ret (pe_and (pe_isi (n := "int") rfl T.u_isinstance rfl T.u_int (pv 0)) (pe_and (pe_not (pe_isi (n := "bool") rfl T.u_isinstance rfl T.u_bool (pv 0))) (pe_one (pe_chain op_le op_le (pv 1) (pv 0) (pv 2))))))), ?_⟩
    refine ⟨_, rfl, rfl, _, hv, _, rfl, ?_⟩
    cases hv with
    | int i =>
      refine iteT ⟨_, rfl, rfl, _, .int i, _, rfl, _, rfl, iteT ⟨_, rfl, _, rfl, _, _, rfl, rfl, _, rfl, ?_⟩⟩
      refine ite2 (fun c1 => ?_) (fun c1 => ?_)
      · refine ⟨_, rfl, _, _, rfl, rfl, ?_⟩
        have e : numB (.int i) lo hi = decide (i ≤ hi) := by
          show (decide (lo ≤ i) && decide (i ≤ hi)) = _
          rw [c1, Bool.true_and]
        rw [e] at k
        exact k
      · have e : numB (.int i) lo hi = false := by
          show (decide (lo ≤ i) && decide (i ≤ hi)) = _
          cases z : decide (lo ≤ i) with
          | true => exact absurd z c1
          | false => rfl
        rw [e] at k
        exact k
    | bl b => exact iteT ⟨_, rfl, rfl, _, .bl b, _, rfl, _, rfl, iteF k⟩
    | str x => exact iteF k
    | non => exact iteF k
    | tup h => exact iteF k
    | lst h => exact iteF k
def sp_is_part (K : PySem.W.Frag) : Sp := fun vs H Q _ => ∃ (v : V) (kd : Str) (lo hi : Int) (n : String), vs = [v, .str kd] ∧ Ent K "BOUNDS" kd [.int lo, .int hi] ∧ TyN K H v n ∧ Q (.bl (numB v lo hi)) H
theorem ok_is_part (T : T w K mg) : FnR P w K mg base CX0 2 (He.ga K "is_part") (sp_is_part K) := by
  have F_is_number : FnR P w K mg base CX0 1 _ _ := ok_is_number T
  obtain ⟨es, en, DB⟩ := T.d_BOUNDS
  obtain ⟨fd, F⟩ := T.f_is_part
  refine F.r sc_is_part (fun _ _ _ _ _ _ us hl => match us, hl with | [_, _], _ => rfl) (fun vs H Q E h => ?_) (fun cdv A outer s H vs Q E hr h => ?_)
  · obtain ⟨_, _, _, _, _, rfl, _⟩ := h
    rfl
  · obtain ⟨v, kd, lo, hi, n, rfl, ⟨p, e1, e2⟩, hv, q⟩ := h
    refine ⟨_, (pss_cons (ps_asg (pe_ix ix_kdict (pe_glob (v := .ref (He.ga K "BOUNDS")) rfl T.g_BOUNDS rfl) (pv 1) (fun _ _ => rfl)) (pg_tup rfl (pgs_cons (pg_name (i := 2) sc_is_part.nd rfl (Or.inl rfl)) (pgs_cons (pg_name (i := 3) sc_is_part.nd rfl (Or.inl rfl)) pgs_nil))))
      (pss_one (ps_ret (pe_callR F_is_number (hr.mono (by decide)) rfl T.g_is_number T.k_is_number (pa_cons (pv 0) (pa_cons (pv 2) (pa_cons (pv 3) pa_nil))))))), ?_⟩
    refine ⟨_, rfl, ?_⟩ -- kind
    refine ⟨_, kd, .ref p, rfl, rfl, ⟨es, en, _, DB.at_, DB.lit, e1, rfl⟩, ?_⟩ -- BOUNDS[kind]
    refine ⟨p, _, rfl, e2 _, rfl, _, _, rfl, _, _, rfl, rfl, ?_⟩ -- low, high = BOUNDS[kind]
    refine ⟨_, rfl, _, rfl, _, rfl, ?_⟩
    exact ⟨v, lo, hi, n, rfl, hv, q⟩
def sp_is_one_of (K : PySem.W.Frag) : Sp := fun vs H Q _ => ∃ (v : V) (m : Int) (n : String), vs = [v, .int m] ∧ TyN K H v n ∧ Q (.bl (numB v 0 (m - 1))) H
theorem ok_is_one_of (T : T w K mg) : FnR P w K mg base CX0 2 (He.ga K "is_one_of") (sp_is_one_of K) := by
  have F_is_number : FnR P w K mg base CX0 1 _ _ := ok_is_number T
  obtain ⟨fd, F⟩ := T.f_is_one_of
  refine F.r sc_is_one_of (fun _ _ _ _ _ _ us hl => match us, hl with | [_, _], _ => rfl) (fun vs H Q E h => ?_) (fun cdv A outer s H vs Q E hr h => ?_)
  · obtain ⟨_, _, _, rfl, _⟩ := h
    rfl
  · obtain ⟨v, m, n, rfl, hv, q⟩ := h
    refine ⟨_, (pss_one (ps_ret (pe_callR F_is_number (hr.mono (by decide)) rfl T.g_is_number T.k_is_number (pa_cons (pv 0) (pa_cons pe_int (pa_cons (pe_op op_sub (pv 1) pe_int) pa_nil)))))), ?_⟩
    refine ⟨_, rfl, ?_⟩ -- value
    refine ⟨_, rfl, ?_⟩ -- many
    refine ⟨_, _, rfl, rfl, ?_⟩ -- many - 1
    exact ⟨v, 0, m - 1, n, rfl, hv, q⟩
def Row.nm : Row → Str
  | .set _ _ => "set" | .add _ _ => "add" | .less _ _ => "less" | .get _ _ => "get" | .put _ _ => "put" | .getx _ _ => "getx" | .putx _ _ => "putx" | .pair _ _ => "pair" | .lay _ _ => "lay" | .go _ => "go" | .iff _ _ => "if" | .ask _ => "ask" | .done _ _ => "done" | .mark _ => "mark" | .clear _ => "clear" | .rest _ => "rest" | .fin => "end"
def Row.parts : Row → List (Int × Str)
  | .set r n => [(r, "cell"), (n, "word")] | .add r s => [(r, "cell"), (s, "cell")] | .less r s => [(r, "cell"), (s, "cell")] | .get r a => [(r, "cell"), (a, "address")] | .put a r => [(a, "address"), (r, "cell")] | .getx r s => [(r, "cell"), (s, "cell")] | .putx s r => [(s, "cell"), (r, "cell")]
  | .pair r a => [(r, "first"), (a, "address")] | .lay a r => [(a, "address"), (r, "first")] | .go t => [(t, "row")] | .iff r t => [(r, "cell"), (t, "row")] | .ask w => [(w, "work")] | .done r w => [(r, "cell"), (w, "work")] | .mark m => [(m, "mark")] | .clear m => [(m, "mark")] | .rest n => [(n, "rest")] | .fin => []
theorem Row.vs_eq (r : Row) : r.vs = .str r.nm :: r.parts.map fun p => V.int p.1 := by cases r <;> rfl
theorem Row.form (T : T w K mg) (r : Row) : Ent K "FORMS" r.nm (r.parts.map fun p => V.str p.2) := by
  cases r
  case set => exact T.e_FORMS_set
  case add => exact T.e_FORMS_add
  case less => exact T.e_FORMS_less
  case get => exact T.e_FORMS_get
  case put => exact T.e_FORMS_put
  case getx => exact T.e_FORMS_getx
  case putx => exact T.e_FORMS_putx
  case pair => exact T.e_FORMS_pair
  case lay => exact T.e_FORMS_lay
  case go => exact T.e_FORMS_go
  case iff => exact T.e_FORMS_if
  case ask => exact T.e_FORMS_ask
  case done => exact T.e_FORMS_done
  case mark => exact T.e_FORMS_mark
  case clear => exact T.e_FORMS_clear
  case rest => exact T.e_FORMS_rest
  case fin => exact T.e_FORMS_end
def PartOk (K : PySem.W.Frag) (n : Nat) (p : Int × Str) : Prop := if p.2 = "row" then numB (.int p.1) 0 ((n : Int) - 1) = true else ∃ lo hi, Ent K "BOUNDS" p.2 [.int lo, .int hi] ∧ numB (.int p.1) lo hi = true
theorem num_ok {i lo hi : Int} (h : rg lo hi i) : numB (.int i) lo hi = true := by
  show (decide (lo ≤ i) && decide (i ≤ hi)) = true
  rw [decide_eq_true h.1, decide_eq_true h.2]
  rfl
theorem part_of {n : Nat} {i lo hi : Int} {kd : Str} (hk : ¬ kd = "row") (e : Ent K "BOUNDS" kd [.int lo, .int hi]) (h : rg lo hi i) : PartOk K n (i, kd) := by
  unfold PartOk
  rw [if_neg hk]
  exact ⟨lo, hi, e, num_ok h⟩
theorem part_row {n : Nat} {i : Int} (h : 0 ≤ i ∧ i < n) : PartOk K n (i, "row") := by
  unfold PartOk
  rw [if_pos rfl]
  exact num_ok ⟨h.1, by omega⟩
theorem Row.partsOk (T : T w K mg) {n : Nat} {r : Row} (h : r.ok n) : ∀ p ∈ r.parts, PartOk K n p := by
  have cell : ∀ {i}, rg 0 3 i → PartOk K n (i, "cell") := fun h => part_of (by decide +kernel) T.e_BOUNDS_cell h
  have word : ∀ {i}, rg 0 999 i → PartOk K n (i, "word") := fun h => part_of (by decide +kernel) T.e_BOUNDS_word h
  have addr : ∀ {i}, rg 0 31 i → PartOk K n (i, "address") := fun h => part_of (by decide +kernel) T.e_BOUNDS_address h
  have frst : ∀ {i}, rg 0 2 i → PartOk K n (i, "first") := fun h => part_of (by decide +kernel) T.e_BOUNDS_first h
  have work : ∀ {i}, rg 0 5 i → PartOk K n (i, "work") := fun h => part_of (by decide +kernel) T.e_BOUNDS_work h
  have mark : ∀ {i}, rg 0 2 i → PartOk K n (i, "mark") := fun h => part_of (by decide +kernel) T.e_BOUNDS_mark h
  have rest : ∀ {i}, rg 1 9 i → PartOk K n (i, "rest") := fun h => part_of (by decide +kernel) T.e_BOUNDS_rest h
  intro p hp
  cases r <;> simp only [Row.parts, List.mem_cons, List.not_mem_nil, or_false] at hp
  case set => rcases hp with rfl | rfl; exact cell h.1; exact word h.2
  case add => rcases hp with rfl | rfl; exact cell h.1; exact cell h.2
  case less => rcases hp with rfl | rfl; exact cell h.1; exact cell h.2
  case get => rcases hp with rfl | rfl; exact cell h.1; exact addr h.2
  case put => rcases hp with rfl | rfl; exact addr h.1; exact cell h.2
  case getx => rcases hp with rfl | rfl; exact cell h.1; exact cell h.2
  case putx => rcases hp with rfl | rfl; exact cell h.1; exact cell h.2
  case pair => rcases hp with rfl | rfl; exact frst h.1; exact addr h.2
  case lay => rcases hp with rfl | rfl; exact addr h.1; exact frst h.2
  case go => subst hp; exact part_row h
  case iff => rcases hp with rfl | rfl; exact cell h.1; exact part_row h.2
  case ask => subst hp; exact work h
  case done => rcases hp with rfl | rfl; exact cell h.1; exact work h.2
  case mark => subst hp; exact mark h
  case clear => subst hp; exact mark h
  case rest => subst hp; exact rest h
def sp_is_row (K : PySem.W.Frag) : Sp := fun vs H Q _ => ∃ (t : Addr) (n : Nat) (r : Row), vs = [.ref t, .int (n : Int)] ∧ SqT K H t r.vs ∧ r.ok n ∧ ∀ H', Same H H' → Q (.bl true) H'
theorem ok_is_row (T : T w K mg) : FnR P w K mg base CX0 3 (He.ga K "is_row") (sp_is_row K) := by
  have F_is_part : FnR P w K mg base CX0 2 _ _ := ok_is_part T
  have F_is_one_of : FnR P w K mg base CX0 2 _ _ := ok_is_one_of T
  obtain ⟨es, en, DF⟩ := T.d_FORMS
  obtain ⟨fd, F⟩ := T.f_is_row
  refine F.r sc_is_row (fun _ _ _ _ _ _ us hl => match us, hl with | [_, _], _ => rfl) (fun vs H Q E h => ?_) (fun cdv A outer s H vs Q E hr h => ?_)
  · obtain ⟨_, _, _, rfl, _⟩ := h
    rfl
  · obtain ⟨t, n, r, rfl, ht, ok, q⟩ := h
    obtain ⟨fp, e1, e2⟩ := Row.form T r
    have po := Row.partsOk T ok
    rw [Row.vs_eq] at ht
    generalize r.nm = nm at ht e1
    generalize r.parts = ps at ht e2 po
    refine ⟨_, (pss_cons (ps_if (PW.pt (pw_or (pt_not (pt_val (pe_isi (n := "tuple") rfl T.u_isinstance rfl T.u_tuple (pv 0)))) (pw_or (pt_not (pt_truth (pv 0) (fun _ => rfl))) (pw_or (pt_not (pt_val (pe_isi (n := "str") rfl T.u_isinstance rfl T.u_str (pe_ix ix_tup (pv 0) pe_int (fun _ _ => rfl))))) (pw_or1 (pt_cmpR (op_notIn_kd DF) (pe_ix ix_tup (pv 0) pe_int (fun _ _ => rfl)) (pe_glob (v := .ref (He.ga K "FORMS")) rfl T.g_FORMS rfl) rfl))))))
      (pss_one (ps_ret pe_bl))
      pss_nil)
      (pss_cons (ps_set (i := 2) sc_is_row.nd rfl (Or.inl rfl) (pe_ix ix_kdict (pe_glob (v := .ref (He.ga K "FORMS")) rfl T.g_FORMS rfl) (pe_ix ix_tup (pv 0) pe_int (fun _ _ => rfl)) (fun _ _ => rfl)))
      (pss_cons (ps_if (pt_cmpR op_ne (pe_callB call_len_seq rfl T.u_len PySem.boot_len (pa_cons (pv 0) pa_nil)) (pe_op op_add (pe_callB call_len_seq rfl T.u_len PySem.boot_len (pa_cons (pv 2) pa_nil)) pe_int) (nomark _))
      (pss_one (ps_ret pe_bl))
      pss_nil)
      (pss_cons (ps_for PassesOwn.never rfl (RZ.pi_zipA rfl T.u_zip (pa_cons (pe_slice sl_tup (pv 0) (po_some pe_int) po_none) (pa_cons (pv 2) pa_nil))) (pg_tup rfl (pgs_cons (pg_name (i := 3) sc_is_row.nd rfl (Or.inl rfl)) (pgs_cons (pg_name (i := 4) sc_is_row.nd rfl (Or.inl rfl)) pgs_nil)))
      (pss_cons (ps_set (i := 5) sc_is_row.nd rfl (Or.inl rfl) (pe_ifExp (pt_cmpR op_eq (pv 4) pe_str (nomark _)) (pe_callR F_is_one_of (hr.mono (by decide)) rfl T.g_is_one_of T.k_is_one_of (pa_cons (pv 3) (pa_cons (pv 1) pa_nil))) (pe_callR F_is_part (hr.mono (by decide)) rfl T.g_is_part T.k_is_part (pa_cons (pv 3) (pa_cons (pv 4) pa_nil)))))
      (pss_one (ps_if (pt_not (pt_val (pv 5)))
      (pss_one (ps_ret pe_bl))
      pss_nil))))
      (pss_one (ps_ret pe_bl)))))), ?_⟩
    refine ⟨_, rfl, rfl, _, .tup ht, _, rfl, iteF ?_⟩ -- isinstance(row, tuple)
    refine ⟨_, rfl, true, ?_, iteF ?_⟩ -- not row
    · exact .inr (.inl ⟨_, ht, rfl⟩)
    refine ⟨_, rfl, _, _, _, _, rfl, rfl, ht, at0 _ _, rfl, _, .str _, _, rfl, iteF ?_⟩ -- isinstance(row[0], str)
    refine ⟨_, rfl, _, _, _, _, rfl, rfl, ht, at0 _ _, nm, _, rfl, rfl, e1, _, rfl, iteF ?_⟩ -- row[0] not in FORMS
    refine ⟨_, rfl, _, _, _, _, rfl, rfl, ht, at0 _ _, _, nm, .ref fp, rfl, rfl, ⟨es, en, _, DF.at_, DF.lit, e1, rfl⟩, ?_⟩ -- form = FORMS[row[0]]
    refine ⟨_, rfl, _, _, rfl, .inr ht, ?_⟩ -- len
    refine ⟨_, rfl, _, _, rfl, .inr (e2 _), _, _, rfl, rfl, ?_⟩ -- len(form) + 1
    refine ⟨rfl, _, rfl, ?_⟩
    have el : ((V.str nm :: ps.map fun p => V.int p.1).length : Int) = ((ps.map fun p => V.str p.2).length : Int) + 1 := by simp
    rw [dec_int', el, decide_eq_true rfl]
    refine iteF ?_
    have n1 : 1 ≤ (V.str nm :: ps.map fun p => V.int p.1).length := by simp
    refine ⟨_, rfl, _, rfl, _, _, rfl, ht, ?_, fun sp hsp => ?_⟩ -- slice row[1:]
    · rw [List.length_cons, sIx1]
      exact fun z => absurd z.1 (by decide)
    rw [cut1]
    refine ⟨_, rfl, ?_⟩ -- form
    have s1 : Same H (upd H sp (.tup (ps.map fun p => V.int p.1))) := Same.new (Same.refl H) hsp
    refine ⟨sp, fp, (ps.map fun p : Int × Str => V.int p.1), (ps.map fun p : Int × Str => V.str p.2), rfl, .inr ⟨.inl (.inl upd_same), e2 _, RZ.for_zipT (by simp) (fun i σ H2 => ∃ v3 v4 v5, σ = [some (.ref t), some (.int (n : Int)), some (.ref fp), v3, v4, v5] ∧ Same H H2 ∧ H2 sp = some (.tup (ps.map fun p => V.int p.1)))
      ⟨none, none, none, rfl, s1, upd_same⟩ (fun i σ H2 ⟨_, _, _, _, _, h⟩ => ⟨.inl (.inl h), e2 _⟩) ?_ ?_⟩⟩
    · rintro i x y tt σ H2 hx hy ⟨v3, v4, v5, rfl, s2, h2⟩ htt
      rw [List.getElem?_map] at hx hy
      cases hp : ps[i]? with
      | none => rw [hp] at hx; cases hx
      | some p =>
        rw [hp] at hx hy
        cases hx
        cases hy
        have hpo := po p (List.mem_of_getElem? hp)
        have s3 : Same H (upd H2 tt (.tup [.int p.1, .str p.2])) := s2.trans (Same.new (Same.refl H2) htt)
        have h3 : upd H2 tt (.tup [.int p.1, .str p.2]) sp = some (.tup (ps.map fun p => V.int p.1)) := by rw [upd_ne (ne_of_none h2 htt)]; exact h2
        refine ⟨tt, _, rfl, .inl (.inl upd_same), rfl, _, _, rfl, _, _, rfl, rfl, ?_⟩
        refine ⟨_, rfl, rfl, _, rfl, ?_⟩
        rw [dec_str]
        unfold PartOk at hpo
        by_cases g : p.2 = "row"
        · rw [decide_eq_true g]
          rw [if_pos g] at hpo
          refine iteT ?_
          refine ⟨_, rfl, _, rfl, _, _, "int", rfl, .int _, ?_⟩
          rw [hpo]
          refine ⟨_, rfl, _, rfl, iteF ?_⟩
          exact ⟨_, _, _, rfl, s3, h3⟩
        · rw [decide_eq_false g]
          rw [if_neg g] at hpo
          obtain ⟨lo, hi, en', hn⟩ := hpo
          refine iteF ?_
          refine ⟨_, rfl, _, rfl, _, _, lo, hi, "int", rfl, en', .int _, ?_⟩
          rw [hn]
          refine ⟨_, rfl, _, rfl, iteF ?_⟩
          exact ⟨_, _, _, rfl, s3, h3⟩
    · rintro σ H2 ⟨v3, v4, v5, rfl, s2, h2⟩
      exact q _ s2
structure WOk (n : Nat) (k : Wk) : Prop where
  b : rg 0 31 k.begin
  g : rg 0 31 k.goal
  m : rg 1 16 k.many
  c : rg 1 4 k.block
  gr : k.greed = "all" ∨ k.greed = "turn" ∨ k.greed = "idle"
  mar : ∀ i, k.mark = some i → rg 0 2 i
  fo : ∀ i, k.follow = some i → 0 ≤ i ∧ i < n
def sp_is_work (K : PySem.W.Frag) : Sp := fun vs H Q _ => ∃ (t : Addr) (n : Nat) (k : Wk), vs = [.ref t, .int (n : Int)] ∧ SqT K H t k.vs ∧ WOk n k ∧ Q (.bl true) H
theorem ok_is_work (T : T w K mg) : FnR P w K mg base CX0 3 (He.ga K "is_work") (sp_is_work K) := by
  have F_is_part : FnR P w K mg base CX0 2 _ _ := ok_is_part T
  have F_is_one_of : FnR P w K mg base CX0 2 _ _ := ok_is_one_of T
  obtain ⟨fd, F⟩ := T.f_is_work
  refine F.r sc_is_work (fun _ _ _ _ _ _ us hl => match us, hl with | [_, _], _ => rfl) (fun vs H Q E h => ?_) (fun cdv A outer s H vs Q E hr h => ?_)
  · obtain ⟨_, _, _, rfl, _⟩ := h
    rfl
  · obtain ⟨t, n, k, rfl, ht, ok, q⟩ := h
    refine ⟨_, (pss_cons (ps_if (PW.pt (pw_or (pt_not (pt_val (pe_isi (n := "tuple") rfl T.u_isinstance rfl T.u_tuple (pv 0)))) (pw_or1 (pt_cmpR op_ne (pe_callB call_len_seq rfl T.u_len PySem.boot_len (pa_cons (pv 0) pa_nil)) pe_int (nomark _)))))
      (pss_one (ps_ret pe_bl))
      pss_nil)
      (pss_cons (ps_asg (pv 0) (pg_tup rfl (pgs_cons (pg_name (i := 2) sc_is_work.nd rfl (Or.inl rfl)) (pgs_cons (pg_name (i := 3) sc_is_work.nd rfl (Or.inl rfl)) (pgs_cons (pg_name (i := 4) sc_is_work.nd rfl (Or.inl rfl)) (pgs_cons (pg_name (i := 5) sc_is_work.nd rfl (Or.inl rfl)) (pgs_cons (pg_name (i := 6) sc_is_work.nd rfl (Or.inl rfl)) (pgs_cons (pg_name (i := 7) sc_is_work.nd rfl (Or.inl rfl)) (pgs_cons (pg_name (i := 8) sc_is_work.nd rfl (Or.inl rfl)) pgs_nil)))))))))
      (pss_cons (ps_set (i := 9) sc_is_work.nd rfl (Or.inl rfl) (pe_and (pe_callR F_is_part (hr.mono (by decide)) rfl T.g_is_part T.k_is_part (pa_cons (pv 2) (pa_cons pe_str pa_nil))) (pe_and (pe_callR F_is_part (hr.mono (by decide)) rfl T.g_is_part T.k_is_part (pa_cons (pv 3) (pa_cons pe_str pa_nil))) (pe_one (pe_callR F_is_part (hr.mono (by decide)) rfl T.g_is_part T.k_is_part (pa_cons (pv 4) (pa_cons pe_str pa_nil)))))))
      (pss_cons (ps_set (i := 10) sc_is_work.nd rfl (Or.inl rfl) (pe_and (pe_callR F_is_part (hr.mono (by decide)) rfl T.g_is_part T.k_is_part (pa_cons (pv 5) (pa_cons pe_str pa_nil))) (pe_one (pe_or (pe_cmp (pc_isN (pv 7))) (pe_one (pe_callR F_is_part (hr.mono (by decide)) rfl T.g_is_part T.k_is_part (pa_cons (pv 7) (pa_cons pe_str pa_nil))))))))
      (pss_one (ps_ret (pe_and (pv 9) (pe_and (pv 10) (pe_and (pe_cmpR op_in_seq (pv 6) (pe_glob (v := .ref (He.ga K "GREEDS")) rfl T.g_GREEDS rfl) rfl) (pe_one (pe_or (pe_cmp (pc_isN (pv 8))) (pe_one (pe_callR F_is_one_of (hr.mono (by decide)) rfl T.g_is_one_of T.k_is_one_of (pa_cons (pv 8) (pa_cons (pv 1) pa_nil))))))))))))))), ?_⟩
    refine ⟨_, rfl, rfl, _, .tup ht, _, rfl, iteF ?_⟩ -- isinstance(work, tuple)
    refine ⟨_, rfl, _, _, rfl, .inr ht, rfl, _, rfl, iteF ?_⟩ -- len(work) != 7
    refine ⟨_, rfl, _, _, rfl, ht, rfl, _, _, rfl, _, _, rfl, _, _, rfl, _, _, rfl, _, _, rfl, _, _, rfl, _, _, rfl, rfl, ?_⟩ -- begin, goal, many, block, greed, mark, follow = work
    refine ⟨_, rfl, _, _, 0, 31, "int", rfl, T.e_BOUNDS_address, .int _, ?_⟩
    rw [num_ok ok.b]
    refine ⟨_, rfl, iteT ?_⟩
    refine ⟨_, rfl, _, _, 0, 31, "int", rfl, T.e_BOUNDS_address, .int _, ?_⟩
    rw [num_ok ok.g]
    refine ⟨_, rfl, iteT ?_⟩
    refine ⟨_, rfl, _, _, 1, 16, "int", rfl, T.e_BOUNDS_many, .int _, ?_⟩
    rw [num_ok ok.m]
    refine ⟨_, rfl, _, _, 1, 4, "int", rfl, T.e_BOUNDS_block, .int _, ?_⟩
    rw [num_ok ok.c]
    refine ⟨_, rfl, iteT ?_⟩
    refine ⟨_, rfl, _, rfl, ?_⟩ -- mark is None
    have fin : ∀ (σ : L2.St), σ[9]? = some (some (.bl true)) → σ[10]? = some (some (.bl true)) → σ[6]? = some (some (.str k.greed)) → σ[8]? = some (some (oV k.follow)) → σ[1]? = some (some (.int (n : Int))) →
        tAndV (tVar 9) (tAndV (tVar 10) (tAndV (tOp (rIn K false) (tVar 6) (tC (.ref (He.ga K "GREEDS")))) (tOrV (tIsN (tVar 8)) (tCallR (sp_is_one_of K) (tCons (tVar 8) (tCons (tVar 1) tNil)))))) σ H Q := by
      intro σ h9 h10 h6 h8 h1
      refine ⟨_, h9, _, rfl, iteT ?_⟩
      refine ⟨_, h10, _, rfl, iteT ?_⟩
      refine ⟨_, h6, _, _, rfl, .inr (T.tt_GREEDS _), rfl, rfl, ?_⟩
      have eg : (if false = true then !inV (V.str k.greed) [.str "all", .str "turn", .str "idle"] else inV (V.str k.greed) [.str "all", .str "turn", .str "idle"]) = true := by
        rcases ok.gr with e | e | e <;> rw [e] <;> decide +kernel
      rw [eg]
      refine ⟨_, rfl, iteT ?_⟩
      refine ⟨_, h8, _, rfl, ?_⟩
      cases ef : k.follow with
      | none => exact iteT q
      | some f =>
        refine iteF ?_
        refine ⟨_, h8, _, h1, _, _, "int", rfl, by rw [ef]; exact .int f, ?_⟩
        rw [ef]
        have := ok.fo f ef
        show Q (.bl (numB (.int f) 0 ((n : Int) - 1))) H
        rw [num_ok ⟨this.1, by omega⟩]
        exact q
    cases em : k.mark with
    | none =>
      refine iteT ?_
      exact fin _ rfl rfl rfl rfl rfl
    | some i =>
      refine iteF ?_
      refine ⟨_, rfl, _, _, 0, 2, "int", rfl, T.e_BOUNDS_mark, .int i, ?_⟩
      have e2 : numB (oV (some i)) 0 2 = true := num_ok (ok.mar i em)
      rw [e2]
      exact fin _ rfl rfl rfl rfl rfl
end
end SB

set_option Elab.async false
set_option linter.all false
set_option maxRecDepth 100000
set_option maxHeartbeats 2000000
namespace SB
open PySem L2
theorem walk_enumT {K : PySem.W.Frag} {a : Addr} {xs : List V} : Walk (IteT K a) xs.length (fun H => SqT K H a xs) (YPair (fun i => some (.int (i : Nat))) (fun i => xs[i]?)) := by
  refine ⟨fun i _ hi q => ⟨xs, xs[i], q, by simp [hi]⟩, fun _ q => ⟨xs, q, Nat.le_refl _⟩, fun i H v H' _ q y => ?_⟩
  obtain ⟨T, x, h1, h2, h3, h4⟩ := y
  exact ⟨T, .int (i : Nat), x, h1, h2, h3, rfl, h4 xs q⟩
section
variable {P : Program} {w : World} {K : PySem.W.Frag} {mg : Str → Option Value} {base : Heap}
def sp_is_ask (K : PySem.W.Frag) : Sp := fun vs H Q _ => ∃ (t : Addr) (n : Nat) (b x e : Int), vs = [.ref t, .int (n : Int), .int e] ∧ SqT K H t [.int b, .int x] ∧ rg 0 200 b ∧ e ≤ b ∧ 0 ≤ x ∧ x < n ∧ Q (.bl true) H
def sp_check_program (K : PySem.W.Frag) : Sp := fun vs H Q _ => ∃ (pa : Addr) (rs : List Addr) (prog : List Row), vs = [.ref pa] ∧ ProgAt K H pa rs prog ∧ 0 < prog.length ∧ prog.length ≤ 40 ∧ (∀ r ∈ prog, r.ok prog.length) ∧ ∀ H', Same H H' → Q .non H'
theorem ok_check_program (T : T w K mg) : FnR P w K mg base CX0 4 (He.ga K "check_program") (sp_check_program K) := by
  have F_is_row : FnR P w K mg base CX0 3 _ _ := ok_is_row T
  obtain ⟨t1, g_MOST_ROWS⟩ := T.i_MOST_ROWS
  obtain ⟨fd, F⟩ := T.f_check_program
  refine F.r sc_check_program (fun _ _ _ _ _ _ us hl => match us, hl with | [_], _ => rfl) (fun vs H Q E h => ?_) (fun cdv A outer s H vs Q E hr h => ?_)
  · obtain ⟨_, _, _, rfl, _⟩ := h
    rfl
  · obtain ⟨pa, rs, prog, rfl, Pr, p0, p40, ok, q⟩ := h
    refine ⟨_, (pss_cons (ps_if (PW.pt (pw_or (pt_not (pt_val (pe_isi (n := "tuple") rfl T.u_isinstance rfl T.u_tuple (pv 0)))) (pw_or1 (pt_not (pt_truth (pv 0) (fun _ => rfl))))))
      (pss_one ps_never)
      pss_nil)
      (pss_one (ps_for PassesOwn.never rfl (pi_enumT rfl T.u_enumerate (pa_cons (pv 0) pa_nil)) (pg_tup rfl (pgs_cons (pg_name (i := 1) sc_check_program.nd rfl (Or.inl rfl)) (pgs_cons (pg_name (i := 2) sc_check_program.nd rfl (Or.inl rfl)) pgs_nil)))
      (pss_one (ps_if (PW.pt (pw_or (pt_cmpR op_eq (pv 1) (pe_glob (v := .int 40) rfl g_MOST_ROWS ⟨_, rfl⟩) (nomark _)) (pw_or1 (pt_not (pt_val (pe_callR F_is_row (hr.mono (by decide)) rfl T.g_is_row T.k_is_row (pa_cons (pv 2) (pa_cons (pe_callB call_len_seq rfl T.u_len PySem.boot_len (pa_cons (pv 0) pa_nil)) pa_nil))))))))
      (pss_one ps_never)
      pss_nil))))), ?_⟩
    have ne : (rs.map V.ref).isEmpty = false := by
      cases rs with
      | nil => have := Pr.len; simp at this; omega
      | cons a r => rfl
    refine ⟨_, rfl, rfl, _, .tup Pr.tup, _, rfl, iteF ?_⟩ -- isinstance(program, tuple)
    refine ⟨_, rfl, true, .inr (.inl ⟨_, Pr.tup, by rw [ne]; rfl⟩), iteF ?_⟩ -- not program
    refine ⟨_, rfl, pa, rs.map V.ref, rfl, Pr.tup, for_it walk_enumT (fun i σ H2 => ∃ v1 v2, σ = [some (.ref pa), v1, v2] ∧ Same H H2) ⟨none, none, rfl, Same.refl H⟩ (fun i σ H2 _ ⟨_, _, _, s2⟩ => Same.tup s2 Pr.tup) ?_ ?_⟩
    · rintro i x σ H2 H3 hi ⟨v1, v2, rfl, s2⟩ ⟨t, y, z, rfl, ht, rfl, e1, e2⟩
      cases e1
      rw [List.length_map] at hi
      have hi2 : i < prog.length := by rw [← Pr.len]; exact hi
      obtain ⟨r, hr'⟩ : ∃ r, prog[i]? = some r := ⟨_, List.getElem?_eq_getElem hi2⟩
      obtain ⟨a, e3, e4⟩ := Pr.get hr'
      have e2 : (rs.map V.ref)[i]? = some z := e2
      rw [List.getElem?_map, e3] at e2
      cases e2
      have s3 : Same H (upd H2 t (.tup [.int (i : Int), .ref a])) := s2.trans (Same.new (Same.refl H2) ht)
      refine ⟨t, _, rfl, .inl (.inl upd_same), rfl, _, _, rfl, _, _, rfl, rfl, ?_⟩
      refine ⟨_, rfl, rfl, _, rfl, ?_⟩
      rw [dec_int', decide_eq_false (by omega)]
      refine iteF ?_
      refine ⟨_, rfl, _, rfl, _, _, rfl, .inr (Same.tup s3 Pr.tup), ?_⟩
      rw [List.length_map, Pr.len]
      refine ⟨a, prog.length, r, rfl, Same.tup s3 e4, ok r (List.mem_of_getElem? hr'), fun H4 s4 => ?_⟩
      exact ⟨_, rfl, iteF ⟨_, _, rfl, s3.trans s4⟩⟩
    · rintro σ H2 ⟨v1, v2, rfl, s2⟩
      exact q _ s2
def sp_check_works (K : PySem.W.Frag) : Sp := fun vs H Q _ => ∃ (wl : Addr) (ts : List Addr) (ks : List Wk), vs = [.ref wl] ∧ WorksAt K H wl ts ks ∧ ks.length ≤ 6 ∧ (∀ k ∈ ks, WOk ks.length k) ∧ ∀ H', Same H H' → Q .non H'
theorem ok_check_works (T : T w K mg) : FnR P w K mg base CX0 4 (He.ga K "check_works") (sp_check_works K) := by
  have F_is_work : FnR P w K mg base CX0 3 _ _ := ok_is_work T
  obtain ⟨t1, g_MOST_WORKS⟩ := T.i_MOST_WORKS
  obtain ⟨fd, F⟩ := T.f_check_works
  refine F.r sc_check_works (fun _ _ _ _ _ _ us hl => match us, hl with | [_], _ => rfl) (fun vs H Q E h => ?_) (fun cdv A outer s H vs Q E hr h => ?_)
  · obtain ⟨_, _, _, rfl, _⟩ := h
    rfl
  · obtain ⟨wl, ts, ks, rfl, W, w6, ok, q⟩ := h
    refine ⟨_, (pss_cons (ps_if (pt_not (pt_val (pe_isi (n := "list") rfl T.u_isinstance rfl T.u_list (pv 0))))
      (pss_one ps_never)
      pss_nil)
      (pss_one (ps_for PassesOwn.never rfl (pi_enum rfl T.u_enumerate (pa_cons (pv 0) pa_nil)) (pg_tup rfl (pgs_cons (pg_name (i := 1) sc_check_works.nd rfl (Or.inl rfl)) (pgs_cons (pg_name (i := 2) sc_check_works.nd rfl (Or.inl rfl)) pgs_nil)))
      (pss_one (ps_if (PW.pt (pw_or (pt_cmpR op_eq (pv 1) (pe_glob (v := .int 6) rfl g_MOST_WORKS ⟨_, rfl⟩) (nomark _)) (pw_or1 (pt_not (pt_val (pe_callR F_is_work (hr.mono (by decide)) rfl T.g_is_work T.k_is_work (pa_cons (pv 2) (pa_cons (pe_callB call_len_seq rfl T.u_len PySem.boot_len (pa_cons (pv 0) pa_nil)) pa_nil))))))))
      (pss_one ps_never)
      pss_nil))))), ?_⟩
    refine ⟨_, rfl, rfl, _, .lst W.lst, _, rfl, iteF ?_⟩ -- isinstance(works, list)
    refine ⟨_, rfl, wl, ts.map V.ref, rfl, W.lst, for_it walk_enum (fun i σ H2 => ∃ v1 v2, σ = [some (.ref wl), v1, v2] ∧ Same H H2) ⟨none, none, rfl, Same.refl H⟩ (fun i σ H2 _ ⟨_, _, _, s2⟩ => s2.seq W.lst) ?_ ?_⟩
    · rintro i x σ H2 H3 hi ⟨v1, v2, rfl, s2⟩ ⟨t, y, z, rfl, ht, rfl, e1, e2⟩
      cases e1
      rw [List.length_map] at hi
      have hi2 : i < ks.length := by rw [← W.len]; exact hi
      obtain ⟨r, hr'⟩ : ∃ r, ks[i]? = some r := ⟨_, List.getElem?_eq_getElem hi2⟩
      obtain ⟨a, e3⟩ : ∃ a, ts[i]? = some a := ⟨_, List.getElem?_eq_getElem hi⟩
      have e4 := W.at_ i a r e3 hr'
      have e2 : (ts.map V.ref)[i]? = some z := e2
      rw [List.getElem?_map, e3] at e2
      cases e2
      have s3 : Same H (upd H2 t (.tup [.int (i : Int), .ref a])) := s2.trans (Same.new (Same.refl H2) ht)
      refine ⟨t, _, rfl, .inl (.inl upd_same), rfl, _, _, rfl, _, _, rfl, rfl, ?_⟩
      refine ⟨_, rfl, rfl, _, rfl, ?_⟩
      rw [dec_int', decide_eq_false (by omega)]
      refine iteF ?_
      refine ⟨_, rfl, _, rfl, _, _, rfl, .inl (s3.seq W.lst), ?_⟩
      rw [List.length_map, W.len]
      refine ⟨a, ks.length, r, rfl, Same.tup s3 e4, ok r (List.mem_of_getElem? hr'), ?_⟩
      exact ⟨_, rfl, iteF ⟨_, _, rfl, s3⟩⟩
    · rintro σ H2 ⟨v1, v2, rfl, s2⟩
      exact q _ s2
def sp_check_memory (K : PySem.W.Frag) : Sp := fun vs H Q _ => ∃ (l : Addr) (ws : List Int), vs = [.ref l] ∧ SqL K H l (ws.map V.int) ∧ 4 ≤ ws.length ∧ ws.length ≤ 32 ∧ (∀ x ∈ ws, rg 0 999 x) ∧ Q .non H
theorem ok_check_memory (T : T w K mg) : FnR P w K mg base CX0 3 (He.ga K "check_memory") (sp_check_memory K) := by
  have F_is_part : FnR P w K mg base CX0 2 _ _ := ok_is_part T
  obtain ⟨t1, g_FEWEST_WORDS⟩ := T.i_FEWEST_WORDS
  obtain ⟨t2, g_MOST_WORDS⟩ := T.i_MOST_WORDS
  obtain ⟨fd, F⟩ := T.f_check_memory
  refine F.r sc_check_memory (fun _ _ _ _ _ _ us hl => match us, hl with | [_], _ => rfl) (fun vs H Q E h => ?_) (fun cdv A outer s H vs Q E hr h => ?_)
  · obtain ⟨_, _, rfl, _⟩ := h
    rfl
  · obtain ⟨l, ws, rfl, hl, w4, w32, ok, q⟩ := h
    refine ⟨_, (pss_cons (ps_if (PW.pt (pw_or (pt_not (pt_val (pe_isi (n := "list") rfl T.u_isinstance rfl T.u_list (pv 0)))) (pw_or1 (pt_not (pt_chain op_le op_le (pe_glob (v := .int 4) rfl g_FEWEST_WORDS ⟨_, rfl⟩) (pe_callB call_len_seq rfl T.u_len PySem.boot_len (pa_cons (pv 0) pa_nil)) (pe_glob (v := .int 32) rfl g_MOST_WORDS ⟨_, rfl⟩))))))
      (pss_one ps_never)
      pss_nil)
      (pss_one (ps_for PassesOwn.never rfl (pi_list (pv 0)) (pg_name (i := 1) sc_check_memory.nd rfl (Or.inl rfl))
      (pss_one (ps_if (pt_not (pt_val (pe_callR F_is_part (hr.mono (by decide)) rfl T.g_is_part T.k_is_part (pa_cons (pv 1) (pa_cons pe_str pa_nil)))))
      (pss_one ps_never)
      pss_nil))))), ?_⟩
    refine ⟨_, rfl, rfl, _, .lst hl, _, rfl, iteF ?_⟩ -- isinstance(memory, list)
    refine ⟨_, rfl, _, _, rfl, .inl hl, _, _, rfl, rfl, ?_⟩
    rw [List.length_map]
    refine ⟨decide ((4 : Int) ≤ (ws.length : Int)), rfl, ?_⟩
    rw [decide_eq_true (show (4 : Int) ≤ (ws.length : Int) by omega)]
    refine iteT ?_
    refine ⟨_, _, rfl, rfl, decide ((ws.length : Int) ≤ (32 : Int)), rfl, ?_⟩
    rw [decide_eq_true (show (ws.length : Int) ≤ (32 : Int) by omega)]
    refine iteF ?_
    refine ⟨_, rfl, l, rfl, ⟨_, hl⟩, for_list (K := K) (a := l) (xs := ws.map V.int) (fun i σ H2 => ∃ v1, σ = [some (.ref l), v1] ∧ H2 = H) ⟨none, rfl, rfl⟩ (fun i σ H2 _ ⟨_, _, e⟩ => by rw [e]; exact hl) ?_ ?_⟩
    · rintro i x σ H2 hx ⟨v1, rfl, rfl⟩
      rw [List.getElem?_map] at hx
      cases hy : ws[i]? with
      | none => rw [hy] at hx; cases hx
      | some y =>
        rw [hy] at hx
        cases hx
        refine ⟨_, rfl, _, _, 0, 999, "int", rfl, T.e_BOUNDS_word, .int _, ?_⟩
        rw [num_ok (ok y (List.mem_of_getElem? hy))]
        exact ⟨_, rfl, iteF ⟨_, rfl, rfl⟩⟩
    · rintro σ H2 ⟨v1, rfl, rfl⟩
      exact q
structure AsksAt (K : PySem.W.Frag) (H : Hp) (al : Addr) (qs : List Addr) (as : List (Int × Int)) : Prop where
  lst : SqL K H al (qs.map V.ref)
  len : qs.length = as.length
  at_ : ∀ (j : Nat) (t : Addr) (a : Int × Int), qs[j]? = some t → as[j]? = some a → SqT K H t [.int a.1, .int a.2]
theorem AsksAt.same {H H' : Hp} {al : Addr} {qs : List Addr} {as : List (Int × Int)} (A : AsksAt K H al qs as) (s : Same H H') : AsksAt K H' al qs as := ⟨s.seq A.lst, A.len, fun j t k h1 h2 => Same.tup s (A.at_ j t k h1 h2)⟩
structure AOk (n : Nat) (as : List (Int × Int)) : Prop where
  len : as.length ≤ 8
  each : ∀ a ∈ as, rg 0 200 a.1 ∧ 0 ≤ a.2 ∧ a.2 < n
  srt : ∀ (i : Nat) a b, as[i]? = some a → as[i + 1]? = some b → a.1 ≤ b.1
def sp_check_asks (K : PySem.W.Frag) : Sp := fun vs H Q _ => ∃ (al wl : Addr) (qs ts : List Addr) (as : List (Int × Int)) (ks : List Wk), vs = [.ref al, .ref wl] ∧ AsksAt K H al qs as ∧ WorksAt K H wl ts ks ∧ AOk ks.length as ∧ ∀ H', Same H H' → Q .non H'
end
end SB

set_option Elab.async false
set_option linter.all false
set_option maxRecDepth 100000
set_option maxHeartbeats 2000000
namespace SB
open PySem L2
structure HS where
  prog : List Row
  asks : List (Int × Int)
  S : MS
  ks : List Wk
  took : Bool
  ws : List Int
  beats : Int
def askOne (b : Int) (ks : List Wk) (a : Int × Int) : List Wk := if a.1 = b then ks.modify a.2.toNat Wk.start else ks
def askAll (b : Int) (ks : List Wk) (as : List (Int × Int)) : List Wk := as.foldl (askOne b) ks
def HS.dm (s : HS) := devMove (askAll s.beats s.ks s.asks) s.took (wantedOf s.prog s.S).isSome s.S.marks s.ws
def HS.ms (s : HS) := mstep s.prog s.S s.dm.1 s.dm.2.1 s.dm.2.2.1
def HS.next (s : HS) : HS := { s with S := s.ms.1, ks := s.ms.2.1, took := s.dm.2.1, ws := s.ms.2.2.1, beats := s.beats + 1 }
def askedOf (s : HS) : List Int := (s.asks.filter fun a => decide (a.1 = s.beats)).map (·.2)
def HS.wake (s : HS) (g : GH) : GH := ({ g with nb := g.G.length } : GH).startAll (askedOf s)
def HS.gmove (s : HS) (g : GH) : GH := devG (askAll s.beats s.ks s.asks) s.took (wantedOf s.prog s.S).isSome s.S.marks s.ws s.beats (s.wake g)
def HS.gnext (s : HS) (g : GH) : GH := mstepG s.prog s.S s.dm.2.1 (s.gmove g)
theorem startAll_asks {b : Int} : ∀ {as : List (Int × Int)} {ks : List Wk}, startAll ks ((as.filter fun a => decide (a.1 = b)).map (·.2)) = askAll b ks as
  | [], ks => rfl
  | a :: r, ks => by
    have ih := fun ks' => startAll_asks (b := b) (as := r) (ks := ks')
    show startAll ks (((a :: r).filter fun a => decide (a.1 = b)).map (·.2)) = askAll b (askOne b ks a) r
    by_cases h : a.1 = b
    · rw [List.filter_cons_of_pos (by simpa using h)]
      unfold askOne
      rw [if_pos h]
      exact ih _
    · rw [List.filter_cons_of_neg (by simpa using h)]
      unfold askOne
      rw [if_neg h]
      exact ih _
structure HOk (s : HS) : Prop where
  m : MOk s.prog s.S
  w0 : 0 < s.ws.length
  k : ∀ k ∈ s.ks, WkOk 3 k
  a : ∀ a ∈ s.asks, 0 ≤ a.2
  a8 : s.asks.length ≤ 8
  l6 : s.ks.length ≤ 6
theorem Row.beats_pos {r : Row} {n : Nat} (h : r.okW n) : 0 < r.beats := by
  cases r <;> simp [Row.beats, Row.okW, rg] at h ⊢ <;> omega
theorem WkOk.start {n : Nat} {k : Wk} (h : WkOk n k) : WkOk n k.start := by
  unfold Wk.start
  split
  · exact h
  · exact h
theorem WkOk.move {n : Nat} {k : Wk} {ws : List Int} (h : WkOk n k) : WkOk n (k.move ws).1 := by
  unfold Wk.move
  cases k.hand <;> exact h
theorem askAll_ok {b : Int} {n : Nat} : ∀ {as : List (Int × Int)} {ks : List Wk}, (∀ k ∈ ks, WkOk n k) → ∀ k ∈ askAll b ks as, WkOk n k
  | [], ks, h => h
  | a :: r, ks, h => by
    show ∀ k ∈ askAll b (askOne b ks a) r, WkOk n k
    refine askAll_ok (fun k hk => ?_)
    unfold askOne at hk
    split at hk
    · exact all_modify (fun x hx => hx.start) h k hk
    · exact h k hk
theorem askAll_len {b : Int} : ∀ {as : List (Int × Int)} {ks : List Wk}, (askAll b ks as).length = ks.length
  | [], ks => rfl
  | a :: r, ks => by
    show (askAll b (askOne b ks a) r).length = ks.length
    rw [askAll_len]
    unfold askOne
    split
    · exact List.length_modify _ _ _
    · rfl
theorem devMove_ok {n : Nat} {ks : List Wk} {took wanted : Bool} {ms : List Bool} {ws : List Int} (h : ∀ k ∈ ks, WkOk n k) : ∀ k ∈ (devMove ks took wanted ms ws).1, WkOk n k := by
  unfold devMove
  cases ks.findIdx? (takes ms wanted took) with
  | none => exact h
  | some j =>
    cases hk : ks[j]? with
    | none => simp only [hk]; exact h
    | some k =>
      have hk' := h k (List.mem_of_getElem? hk)
      simp only [hk]
      split
      · exact all_set h hk'.move
      · split
        · exact all_set h hk'.move
        · exact all_modify (fun x hx => hx.start) (all_set h hk'.move)
theorem devMove_len {ks : List Wk} {took wanted : Bool} {ms : List Bool} {ws : List Int} : (devMove ks took wanted ms ws).1.length = ks.length ∧ (devMove ks took wanted ms ws).2.2.1.length = ws.length := by
  unfold devMove
  cases ks.findIdx? (takes ms wanted took) with
  | none => exact ⟨rfl, rfl⟩
  | some j =>
    cases hk : ks[j]? with
    | none => simp [hk]
    | some k =>
      simp only [hk]
      constructor
      · split
        · simp
        · split <;> simp
      · unfold Wk.move
        cases k.hand <;> simp
theorem eff_ks_ok {n m : Nat} {S : MS} {ks : List Wk} {r : Row} (h : ∀ k ∈ ks, WkOk n k) : ∀ k ∈ (eff m S ks r).2, WkOk n k := by
  cases r <;> first | exact h | exact all_modify (fun x hx => hx.start) h
theorem eff_len {m : Nat} {S : MS} {ks : List Wk} {r : Row} : (eff m S ks r).2.length = ks.length := by
  cases r <;> first | rfl | exact List.length_modify _ _ _
theorem eff_m {prog : List Row} {S : MS} {ks : List Wk} {r : Row} (ok : r.okW prog.length) (hr : 0 ≤ S.row) (hn : S.row < prog.length) : (eff prog.length S ks r).1.cells.length = S.cells.length ∧ (eff prog.length S ks r).1.marks.length = S.marks.length ∧
    0 ≤ (eff prog.length S ks r).1.row ∧ (eff prog.length S ks r).1.row ≤ prog.length ∧ (eff prog.length S ks r).1.spent = 0 := by
  cases r <;> simp [eff, Row.okW] at ok ⊢ <;> first | omega | (split <;> omega)
theorem tick_m {prog : List Row} {S : MS} {ks : List Wk} {r : Row} (ok : r.okW prog.length) (hr : 0 ≤ S.row) (hn : prog[S.row.toNat]? = some r) (h0 : 0 ≤ S.spent) (h1 : S.spent ≤ r.beats) (c4 : S.cells.length = 4) (m3 : S.marks.length = 3) (hp : ∀ r ∈ prog, r.okW prog.length) :
    MOk prog (tick prog.length S ks r).1 := by
  have hlt : S.row < prog.length := by
    have := (List.getElem?_eq_some_iff.mp hn).1
    omega
  unfold tick
  split
  · obtain ⟨a1, a2, a3, a4, a5⟩ := eff_m (ks := ks) ok hr hlt
    exact ⟨by rw [a1]; exact c4, by rw [a2]; exact m3, a3, a4, by rw [a5]; exact Int.le_refl 0, fun r' h' => by rw [a5]; exact Row.beats_pos (hp r' (List.mem_of_getElem? h')), hp⟩
  · rename_i hne
    refine ⟨c4, m3, hr, Int.le_of_lt hlt, h0, fun r' h' => ?_, hp⟩
    have e : r' = r := by
      have h'' : prog[S.row.toNat]? = some r' := h'
      rw [hn] at h''
      exact (Option.some.inj h'').symm
    rw [e]
    show S.spent < r.beats
    omega
theorem useW_len {z : Str} {p cl : Int} {cells ws : List Int} : (useW z p cl cells ws).1.length = cells.length ∧ (useW z p cl cells ws).2.1.length = ws.length := by
  unfold useW
  split <;> simp
theorem tick_ks {n m : Nat} {S : MS} {ks : List Wk} {r : Row} (h : ∀ k ∈ ks, WkOk n k) : ∀ k ∈ (tick m S ks r).2, WkOk n k := by
  unfold tick
  split
  · exact eff_ks_ok h
  · exact h
theorem tick_len {m : Nat} {S : MS} {ks : List Wk} {r : Row} : (tick m S ks r).2.length = ks.length := by
  unfold tick
  split
  · exact eff_len
  · rfl
theorem mstep_ok {prog : List Row} {S : MS} {ks : List Wk} {took : Bool} {ws : List Int} (O : MOk prog S) : MOk prog (mstep prog S ks took ws).1 := by
  unfold mstep
  cases e1 : prog[S.row.toNat]? with
  | none => exact O
  | some r =>
    have rok := O.rows r (List.mem_of_getElem? e1)
    have s1 := O.sp1 r e1
    have s0 := O.sp0
    cases hwd : r.word S.spent S.cells with
    | none =>
      simp only [hwd]
      exact tick_m rok O.row0 e1 (by show 0 ≤ S.spent + 1; omega) (by show S.spent + 1 ≤ _; omega) O.c4 O.m3 O.rows
    | some zz =>
      obtain ⟨z, p, cl⟩ := zz
      simp only [hwd]
      split
      · exact O
      · exact tick_m rok O.row0 e1 (by show 0 ≤ S.spent + 1; omega) (by show S.spent + 1 ≤ _; omega) (by show (useW z p cl S.cells ws).1.length = 4; rw [useW_len.1]; exact O.c4) O.m3 O.rows
theorem mstep_ks {prog : List Row} {S : MS} {ks : List Wk} {took : Bool} {ws : List Int} {n : Nat} (h : ∀ k ∈ ks, WkOk n k) : ∀ k ∈ (mstep prog S ks took ws).2.1, WkOk n k := by
  unfold mstep
  cases e1 : prog[S.row.toNat]? with
  | none => exact h
  | some r =>
    cases hwd : r.word S.spent S.cells with
    | none => simp only [hwd]; exact tick_ks h
    | some zz =>
      obtain ⟨z, p, cl⟩ := zz
      simp only [hwd]
      split
      · exact h
      · exact tick_ks h
theorem mstep_len {prog : List Row} {S : MS} {ks : List Wk} {took : Bool} {ws : List Int} : (mstep prog S ks took ws).2.1.length = ks.length ∧ (mstep prog S ks took ws).2.2.1.length = ws.length := by
  unfold mstep
  cases e1 : prog[S.row.toNat]? with
  | none => exact ⟨rfl, rfl⟩
  | some r =>
    cases hwd : r.word S.spent S.cells with
    | none => simp only [hwd]; exact ⟨tick_len, trivial⟩
    | some zz =>
      obtain ⟨z, p, cl⟩ := zz
      simp only [hwd]
      split
      · exact ⟨rfl, rfl⟩
      · exact ⟨tick_len, useW_len.2⟩
theorem HOk.next {s : HS} (O : HOk s) : HOk s.next := by
  refine ⟨mstep_ok O.m, ?_, ?_, O.a, O.a8, ?_⟩
  · show 0 < s.ms.2.2.1.length
    unfold HS.ms
    rw [mstep_len.2]
    unfold HS.dm
    rw [devMove_len.2]
    exact O.w0
  · exact mstep_ks (devMove_ok (askAll_ok O.k))
  · show s.ms.2.1.length ≤ 6
    unfold HS.ms
    rw [mstep_len.1]
    unfold HS.dm
    rw [devMove_len.1, askAll_len]
    exact O.l6
end SB

set_option Elab.async false
set_option linter.all false
set_option maxRecDepth 100000
set_option maxHeartbeats 2000000
namespace SB
open PySem L2
structure FA where
  (h dh m dm pa c k lw al : Addr)
  (rs qs : List Addr)
  da : DA
def FA.own (a : FA) : List Addr := [a.h, a.m, a.c, a.k, a.lw]
def FA.foot (a : FA) : List Addr := a.own ++ a.da.foot
structure FlAt (K : PySem.W.Frag) (H : Hp) (a : FA) (s : HS) (g : GH) : Prop where
  ob : H a.h = some (.ins (cFloor K) a.dh (flF ⟨a.m, a.da.d, a.lw, a.al, s.beats⟩))
  mc : McAt K H a.m a.dm a.pa a.rs s.prog a.c a.k s.S
  dv : DevAt K H a.da s.ks s.took g
  wd : H a.lw = some (.lst (s.ws.map V.int))
  als : H a.al = some (.lst (a.qs.map V.ref))
  alen : a.qs.length = s.asks.length
  aat : ∀ (j : Nat) (t : Addr) (x : Int × Int), a.qs[j]? = some t → s.asks[j]? = some x → SqT K H t [.int x.1, .int x.2]
  nal : a.al ∉ a.foot
  ap : ∀ b ∈ a.own, b ∉ a.da.foot
  hm : a.h ≠ a.m
  wc : a.lw ≠ a.c
  wk : a.lw ≠ a.k
section
variable {P : Program} {w : World} {K : PySem.W.Frag} {mg : Str → Option Value} {base : Heap} {H H' : Hp} {a : FA} {s : HS} {g : GH}
theorem FlAt.inO (A : FlAt K H a s g) : ∀ b ∈ a.own, ∃ u, H b = some u ∧ notTup u = true := fun b hb => by
  unfold FA.own at hb
  simp only [List.mem_cons] at hb
  rcases hb with rfl | rfl | rfl | rfl | rfl | hb
  · exact ⟨_, A.ob, rfl⟩
  · exact ⟨_, A.mc.ob, rfl⟩
  · exact ⟨_, A.mc.hc, rfl⟩
  · exact ⟨_, A.mc.hk, rfl⟩
  · exact ⟨_, A.wd, rfl⟩
  · cases hb
theorem FlAt.inF (A : FlAt K H a s g) : ∀ b ∈ a.foot, ∃ u, H b = some u ∧ notTup u = true := fun b hb => by
  rcases List.mem_append.mp hb with hb | hb
  · exact A.inO b hb
  · exact A.dv.inF b hb
theorem ne_of_none' {a b : Addr} {o : HO} (h : H a = some o) (h' : H b = none) : b ≠ a := Ne.symm (ne_of_none h h')
theorem FlAt.change (A : FlAt K H a s g) {s' : HS} {da : DA} {g' : GH} (hp : s'.prog = s.prog) (ha : s'.asks = s.asks) (st : Stp a.own a.da.foot H da.foot H') (ob : H' a.h = some (.ins (cFloor K) a.dh (flF ⟨a.m, da.d, a.lw, a.al, s'.beats⟩)))
    (mc : McAt K H' a.m a.dm a.pa a.rs s'.prog a.c a.k s'.S) (dv : DevAt K H' da s'.ks s'.took g') (wd : H' a.lw = some (.lst (s'.ws.map V.int))) : FlAt K H' { a with da := da } s' g' := by
  refine ⟨ob, mc, dv, wd, st.kp _ _ A.als A.nal, by rw [ha]; exact A.alen, fun j t x h1 h2 => tup_keep (A.aat j t x h1 (by rw [← ha]; exact h2)) st.kp A.inF, fun z => ?_, fun b hb => ?_, A.hm, A.wc, A.wk⟩
  · have z' : a.al ∈ a.own ++ da.foot := z
    rcases List.mem_append.mp z' with z | z
    · exact A.nal (List.mem_append.mpr (.inl z))
    · exact st.apart A.als (fun y => A.nal (List.mem_append.mpr (.inr y))) z
  · obtain ⟨u, hu, _⟩ := A.inO b hb
    exact st.apart hu (A.ap b hb)
theorem FlAt.same (A : FlAt K H a s g) (e : Same H H') : FlAt K H' a s g := A.change (da := a.da) rfl rfl (Stp.same e) (e _ _ A.ob) (A.mc.same e) (A.dv.same e) (e _ _ A.wd)
theorem FlAt.stay (A : FlAt K H a s g) {as : List Addr} (k : Kept as H H') (h : ∀ b ∈ a.foot, b ∉ as) (h2 : a.al ∉ as) (hn : ∀ b ∈ as, ∃ u, H b = some u ∧ notTup u = true) : FlAt K H' a s g := by
  have ho : ∀ b ∈ a.own, b ∉ as := fun b hb => h b (List.mem_append.mpr (.inl hb))
  refine ⟨k _ _ A.ob (ho _ (by simp [FA.own])), A.mc.stay k (fun b hb => ho b (by
    simp only [List.mem_cons] at hb
    simp only [FA.own, List.mem_cons]
    rcases hb with h | h | h | h
    · exact .inr (.inl h)
    · exact .inr (.inr (.inl h))
    · exact .inr (.inr (.inr (.inl h)))
    · cases h)) hn, A.dv.stay k (fun b hb => h b (List.mem_append.mpr (.inr hb))) hn, k _ _ A.wd (ho _ (by simp [FA.own])), k _ _ A.als h2, A.alen, fun j t x h1 h2 => tup_keep (A.aat j t x h1 h2) k hn, A.nal, A.ap, A.hm, A.wc, A.wk⟩
def ToldB (H H' : Hp) (v : V) (x : Option (Int × Str × Int × Int)) (y : MT) : Prop := ∃ p v1 v2, v = .ref p ∧ H p = none ∧ H' p = some (.tup [v1, v2]) ∧ Told H H' v1 x ∧ ToldM H H' v2 y
theorem Told.keep {H H1 H2 : Hp} {v : V} {y : Option (Int × Str × Int × Int)} (t : Told H H1 v y) (h : ∀ q us, H1 q = some (.tup us) → H2 q = some (.tup us)) : Told H H2 v y := by
  cases y with
  | none => exact t
  | some z =>
    obtain ⟨z1, z2, z3, z4⟩ := z
    obtain ⟨q, e, h1, h2⟩ := t
    exact ⟨q, e, h1, h _ _ h2⟩
theorem Told.early {H0 H H1 : Hp} {v : V} {y : Option (Int × Str × Int × Int)} (t : Told H H1 v y) (h : ∀ b, H b = none → H0 b = none) : Told H0 H1 v y := by
  cases y with
  | none => exact t
  | some z =>
    obtain ⟨z1, z2, z3, z4⟩ := z
    obtain ⟨q, e, h1, h2⟩ := t
    exact ⟨q, e, h _ h1, h2⟩
theorem ToldM.early {H0 H H1 : Hp} {v : V} {y : MT} (t : ToldM H H1 v y) (h : ∀ b, H b = none → H0 b = none) : ToldM H0 H1 v y := by
  cases y with
  | word z a x =>
    obtain ⟨q, e, h1, h2⟩ := t
    exact ⟨q, e, h _ h1, h2⟩
  | _ => exact t
structure FLe (a a' : FA) : Prop where
  h : a'.h = a.h
  o : a'.own = a.own
  al : a'.al = a.al
  d : DLe a.da a'.da
theorem FLe.refl (a : FA) : FLe a a := ⟨rfl, rfl, rfl, DLe.refl _⟩
theorem FLe.trans {a b c : FA} (x : FLe a b) (y : FLe b c) : FLe a c := ⟨y.h.trans x.h, y.o.trans x.o, y.al.trans x.al, x.d.trans y.d⟩
theorem HOk.gl (O : HOk s) (g : GH) : (s.wake g).G.length < (s.wake g).nb + 100 := by
  have h := GH.startAll_len (ns := askedOf s) (g := ({ g with nb := g.G.length } : GH))
  have h8 : (askedOf s).length ≤ 8 := by
    unfold askedOf
    rw [List.length_map]
    exact Nat.le_trans (List.length_filter_le _ _) O.a8
  unfold HS.wake
  rw [h.2]
  have h1 := h.1
  show _ < g.G.length + 100
  have e : (({ g with nb := g.G.length } : GH)).G.length = g.G.length := rfl
  rw [e] at h1
  omega
theorem devG_len {ks : List Wk} {took wanted : Bool} {ms : List Bool} {ws : List Int} {when : Int} {g : GH} : (devG ks took wanted ms ws when g).G.length ≤ g.G.length + 1 ∧ (devG ks took wanted ms ws when g).nb = g.nb := by
  unfold devG
  cases ks.findIdx? (takes ms wanted took) with
  | none => simp
  | some j =>
    cases hk : ks[j]? with
    | none => simp only [hk]; simp
    | some k =>
      simp only [hk]
      have h1 := GH.move_len (g := g) (j := j) (k := k) (when := when) (ws := ws)
      split
      · omega
      · split
        · omega
        · rename_i f _
          have h2 := GH.start_len (g := g.move j k when ws) (n := f.toNat)
          omega
def sp_Floor_pass_beat (K : PySem.W.Frag) : Sp := fun vs H Q _ => ∃ (a : FA) (s : HS) (g : GH), vs = [.ref a.h] ∧ FlAt K H a s g ∧ HOk s ∧ ∀ H' a' v, FLe a a' → FlAt K H' a' s.next (s.gnext g) → Step a.foot H a'.foot H' → ToldB H H' v s.dm.2.2.2 s.ms.2.2.2 → Q v H'
theorem ok_Floor_pass_beat (T : T w K mg) : FnR P w K mg base CX0 6 (He.ma K (He.ga K "Floor") "pass_beat") (sp_Floor_pass_beat K) := by
  have F_Device_wake : FnR P w K mg base CX0 4 _ _ := ok_Device_wake T
  have F_Device_move : FnR P w K mg base CX0 4 _ _ := ok_Device_move T
  have F_Machine_wanted : FnR P w K mg base CX0 2 _ _ := ok_Machine_wanted T
  have F_Machine_step : FnR P w K mg base CX0 5 _ _ := ok_Machine_step T
  obtain ⟨fd, F⟩ := T.f_Floor_pass_beat
  refine F.r sc_Floor_pass_beat (fun _ _ _ _ _ _ us hl => match us, hl with | [_], _ => rfl) (fun vs H Q E h => ?_) (fun cdv A outer s0 H vs Q E hr h => ?_)
  · obtain ⟨_, _, _, rfl, _⟩ := h
    rfl
  · obtain ⟨a, s, g, rfl, L, O, q⟩ := h
    refine ⟨_, (pss_cons (ps_expr (pe_mthR (pe_fld (pv 0) rfl) T.cl_Device T.m_Device_wake F_Device_wake (hr.mono (by decide)) (pa_cons (pe_lc (own := [("when", 4), ("work", 5)]) (g := gTup K 2 (gCons (gName 4) (gCons (gName 5) gNil))) (tt := tTest (tOp rEq (tVar 4) (tFld K (tVar 0) "beats"))) (te := tVar 5) rfl sc_Floor_pass_beat.nd (pi_list (pe_fld (pv 0) rfl))
        (blkOk_by (N := ["self", "wanted", "moved", "done", "when", "work"]) (sc := defScope s_Floor_pass_beat) (by decide +kernel))
        (fun _ _ _ _ _ => pg_tup rfl (pgs_cons (pg_name (i := 4) sc_Floor_pass_beat.nd rfl (Or.inl rfl)) (pgs_cons (pg_name (i := 5) sc_Floor_pass_beat.nd rfl (Or.inl rfl)) pgs_nil)))
        (fun _ _ _ _ _ => pts_one (pt_cmpR op_eq (pv 4) (pe_fld (pv 0) rfl) (nomark _)))
        (fun _ _ _ _ _ => pv 5)) pa_nil)))
      (pss_cons (ps_set (i := 1) sc_Floor_pass_beat.nd rfl (Or.inl rfl) (pe_cmp (pc_notN (pe_mth0R (pe_fld (pv 0) rfl) T.cl_Machine T.m_Machine_wanted F_Machine_wanted (hr.mono (by decide))))))
      (pss_cons (ps_set (i := 2) sc_Floor_pass_beat.nd rfl (Or.inl rfl) (pe_mthR (pe_fld (pv 0) rfl) T.cl_Device T.m_Device_move F_Device_move (hr.mono (by decide)) (pa_cons (pe_fld (pv 0) rfl) (pa_cons (pv 1) (pa_cons (pe_fld (pe_fld (pv 0) rfl) rfl) (pa_cons (pe_fld (pv 0) rfl) pa_nil))))))
      (pss_cons (ps_set (i := 3) sc_Floor_pass_beat.nd rfl (Or.inl rfl) (pe_mthR (pe_fld (pv 0) rfl) T.cl_Machine T.m_Machine_step F_Machine_step (hr.mono (by decide)) (pa_cons (pe_fld (pv 0) rfl) (pa_cons (pe_fld (pv 0) rfl) pa_nil))))
      (pss_cons (ps_fldaug (pv 0) pe_int in_add)
      (pss_one (ps_ret (pe_tup (pa_cons (pv 2) (pa_cons (pv 3) pa_nil)))))))))), ?_⟩
    refine ⟨_, rfl, _, _, _, _, _, rfl, L.ob, T.cl_Floor, T.n_Floor_device, fl_device _, ?_⟩
    refine ⟨_, _, _, rfl, L.dv.ob, dv_no_wake _, ?_⟩
    refine ⟨_, rfl, _, _, _, _, _, rfl, L.ob, T.cl_Floor, T.n_Floor_asks, fl_asks _, ?_⟩
    refine ⟨a.al, rfl, ⟨_, SqL.of L.als⟩, fun R hR => ?_⟩
    refine lc_list (K := K) (a := a.al) (xs := a.qs.map V.ref) (fun i H2 => H2 R = some (.lst ((((s.asks.take i).filter fun a => decide (a.1 = s.beats)).map (·.2)).map V.int)) ∧ Same H H2)
      ⟨upd_same, Same.new (Same.refl H) hR⟩ (fun i H2 _ ⟨_, s2⟩ => SqL.of (s2 _ _ L.als)) ?_ ?_
    · rintro i x H2 hx ⟨hR2, s2⟩
      rw [List.getElem?_map] at hx
      cases ht : a.qs[i]? with
      | none => rw [ht] at hx; cases hx
      | some t =>
        rw [ht] at hx
        cases hx
        have hi : i < s.asks.length := by rw [← L.alen]; exact (List.getElem?_eq_some_iff.mp ht).1
        obtain ⟨x, hx⟩ : ∃ x, s.asks[i]? = some x := ⟨_, List.getElem?_eq_getElem hi⟩
        have e4 := Same.tup s2 (L.aat i t x ht hx)
        have et : s.asks.take (i + 1) = s.asks.take i ++ [x] := by
          rw [List.take_add_one, hx]
          rfl
        refine ⟨t, _, rfl, e4, rfl, _, _, rfl, _, _, rfl, rfl, rfl, ?_⟩
        refine ⟨_, rfl, _, rfl, _, _, _, _, _, rfl, s2 _ _ L.ob, T.cl_Floor, T.n_Floor_beats, fl_beats _, rfl, _, rfl, ?_⟩
        rw [dec_int']
        by_cases g1 : x.1 = s.beats
        · rw [decide_eq_true g1]
          refine iteT ?_
          refine ⟨_, rfl, _, hR2, ?_, ?_, ?_⟩
          · rw [List.length_map, List.length_map]
            have h1 := List.length_filter_le (fun a : Int × Int => decide (a.1 = s.beats)) (s.asks.take i)
            rw [List.length_take] at h1
            have h8 := O.a8
            exact Nat.lt_of_le_of_lt (Nat.le_trans h1 (by omega : _ ≤ 8)) (by decide)
          · rw [upd_same, et, List.filter_append, List.filter_cons_of_pos (by simpa using g1)]
            simp
          · exact Same.new s2 hR
        · rw [decide_eq_false g1]
          refine iteF ⟨?_, s2⟩
          rw [et, List.filter_append, List.filter_cons_of_neg (by simpa using g1)]
          simpa using hR2
    · rintro H2 ⟨hR2, s2⟩
      rw [List.length_map, L.alen, List.take_length] at hR2
      have L2 := L.same s2
      have nR : R ∉ a.foot := fun z => by
        obtain ⟨u, hu, _⟩ := L.inF R z
        rw [hR] at hu
        cases hu
      have a8 : (askedOf s).length ≤ 8 := by
        unfold askedOf
        rw [List.length_map]
        exact Nat.le_trans (List.length_filter_le _ _) O.a8
      refine ⟨a.da, _, _, _, R, askedOf s, rfl, L2.dv, hR2, fun z => nR (List.mem_append.mpr (.inr z)), a8, fun n hn => ?_, fun H3 d3 le3 D3 st3 => ?_⟩ -- wake
      · obtain ⟨x, hx, e⟩ := List.mem_map.mp hn
        rw [← e]
        exact O.a x (List.mem_filter.mp hx).1
      have ew : startAll s.ks (askedOf s) = askAll s.beats s.ks s.asks := startAll_asks
      rw [ew] at D3
      have ow : ∀ {b : Addr}, b ∈ a.own → b ∉ a.da.foot := fun hb => L2.ap _ hb
      have own3 : ∀ {b : Addr} {o : HO}, b ∈ a.own → H2 b = some o → H3 b = some o := fun hb h => st3.kp _ _ h (ow hb)
      have mck : ∀ b ∈ [a.m, a.c, a.k], b ∈ a.own := fun b hb => by
        simp only [List.mem_cons] at hb
        simp only [FA.own, List.mem_cons]
        rcases hb with h | h | h | h
        · exact .inr (.inl h)
        · exact .inr (.inr (.inl h))
        · exact .inr (.inr (.inr (.inl h)))
        · cases h
      have L3 : FlAt K H3 { a with da := d3 } { s with ks := askAll s.beats s.ks s.asks } (s.wake g) := by
        refine L2.change (s' := { s with ks := askAll s.beats s.ks s.asks }) rfl rfl (st3.more a.own) ?_ (L2.mc.stay st3.kp (fun b hb => ow (mck b hb)) L2.dv.inF) D3 (own3 (by simp [FA.own]) L2.wd)
        rw [le3.d]
        exact own3 (by simp [FA.own]) L2.ob
      have k03 : Stp a.own a.da.foot H d3.foot H3 := (Stp.same s2).trans (st3.more a.own)
      refine ⟨_, rfl, _, _, _, _, _, rfl, L3.ob, T.cl_Floor, T.n_Floor_machine, fl_machine _, ?_⟩
      refine ⟨_, _, _, rfl, L3.mc.ob, mc_no_wanted _, ?_⟩
      refine ⟨_, _, _, _, _, _, _, _, rfl, L3.mc, O.m, fun H4 wv s4 hwv => ?_⟩ -- self.machine.wanted()
      have L4 := L3.same s4
      have ewv : (!decide (wv = V.non)) = (wantedOf s.prog s.S).isSome := by
        have hwv' : Wtd H3 H4 wv (wantedOf s.prog s.S) := hwv
        cases hw : wantedOf s.prog s.S with
        | none =>
          rw [hw] at hwv'
          have e : wv = .non := hwv'
          rw [e]
          rfl
        | some z =>
          rw [hw] at hwv'
          obtain ⟨z1, z2, z3⟩ := z
          obtain ⟨y, e, _⟩ := hwv'
          rw [e]
          rfl
      dsimp only
      rw [ewv]
      refine ⟨_, rfl, _, _, _, _, _, rfl, L4.ob, T.cl_Floor, T.n_Floor_device, fl_device _, ?_⟩
      refine ⟨_, _, _, rfl, L4.dv.ob, dv_no_move _, ?_⟩
      refine ⟨_, rfl, _, _, _, _, _, rfl, L4.ob, T.cl_Floor, T.n_Floor_beats, fl_beats _, ?_⟩
      refine ⟨_, rfl, ?_⟩ -- wanted
      refine ⟨_, rfl, _, _, _, _, _, rfl, L4.ob, T.cl_Floor, T.n_Floor_machine, fl_machine _, ?_⟩
      refine ⟨_, _, _, _, _, rfl, L4.mc.ob, T.cl_Machine, T.n_Machine_marks, mc_marks _, ?_⟩
      refine ⟨_, rfl, _, _, _, _, _, rfl, L4.ob, T.cl_Floor, T.n_Floor_words, fl_words _, ?_⟩
      have hok3 : ∀ k ∈ askAll s.beats s.ks s.asks, WkOk s.S.marks.length k := by rw [O.m.m3]; exact askAll_ok O.k
      have gl := O.gl g
      refine ⟨d3, _, _, _, _, _, _, _, _, _, rfl, L4.dv, L4.mc.hk, L4.wd, O.w0, L4.ap _ (by simp [FA.own]), hok3, by omega, fun H5 d5 mv le5 D5 hl5 st5 t5 => ?_⟩ -- self.device.move(..)
      have lwo : a.lw ∈ a.own := by simp [FA.own]
      have st5' : Stp a.own d3.foot H4 d5.foot H5 := st5.mono (fun x hx => by
        have e : x = a.lw := by simpa using hx
        rw [e]
        exact lwo)
      have inF4 : ∀ b ∈ [a.lw] ++ d3.foot, ∃ u, H4 b = some u ∧ notTup u = true := fun b hb => by
        rcases List.mem_append.mp hb with hb | hb
        · have e : b = a.lw := by simpa using hb
          rw [e]
          exact ⟨_, L4.wd, rfl⟩
        · exact L4.dv.inF b hb
      have ow4 : ∀ {b : Addr}, b ∈ a.own → b ∉ d3.foot := fun hb => L4.ap _ hb
      have nlw : ∀ {b : Addr}, b ∈ a.own → b ≠ a.lw → b ∉ [a.lw] ++ d3.foot := fun {b} hb hn z => by
        rcases List.mem_append.mp z with z | z
        · exact hn (by simpa using z)
        · exact ow4 hb z
      have mlw : a.m ≠ a.lw := ins_ne_lst L4.mc.ob L4.wd
      have hlw : a.h ≠ a.lw := ins_ne_lst L4.ob L4.wd
      have M5 : McAt K H5 a.m a.dm a.pa a.rs s.prog a.c a.k s.S := L4.mc.stay st5.kp (fun b hb => by
        refine nlw (mck b hb) ?_
        simp only [List.mem_cons] at hb
        rcases hb with rfl | rfl | rfl | h
        · exact mlw
        · exact Ne.symm L.wc
        · exact Ne.symm L.wk
        · cases h) inF4
      have L5 : FlAt K H5 { a with da := d5 } { s with ks := s.dm.1, took := s.dm.2.1, ws := s.dm.2.2.1 } (s.gmove g) := by
        refine L4.change (s' := { s with ks := s.dm.1, took := s.dm.2.1, ws := s.dm.2.2.1 }) rfl rfl st5' ?_ M5 D5 hl5
        rw [le5.d]
        exact st5.kp _ _ L4.ob (nlw (by simp [FA.own]) hlw)
      refine ⟨_, rfl, _, _, _, _, _, rfl, L5.ob, T.cl_Floor, T.n_Floor_machine, fl_machine _, ?_⟩
      refine ⟨_, _, _, rfl, L5.mc.ob, mc_no_step _, ?_⟩
      refine ⟨_, rfl, _, _, _, _, _, rfl, L5.ob, T.cl_Floor, T.n_Floor_words, fl_words _, ?_⟩
      refine ⟨_, rfl, _, _, _, _, _, rfl, L5.ob, T.cl_Floor, T.n_Floor_device, fl_device _, ?_⟩
      have w05 : 0 < s.dm.2.2.1.length := by unfold HS.dm; rw [devMove_len.2]; exact O.w0
      have gl5 : (s.gmove g).G.length < (s.gmove g).nb + 1000 := by
        have h := devG_len (ks := askAll s.beats s.ks s.asks) (took := s.took) (wanted := (wantedOf s.prog s.S).isSome) (ms := s.S.marks) (ws := s.ws) (when := s.beats) (g := s.wake g)
        unfold HS.gmove
        omega
      refine ⟨_, _, _, _, _, _, d5, _, _, _, _, _, _, _, rfl, L5.mc, O.m, L5.dv, fun b hb => L5.ap b (mck b hb), L5.wd, w05, L5.wc, L5.wk, L5.ap _ lwo, gl5, fun H6 d6 dv le6 M6 D6 hl6 st6 t6 => ?_⟩ -- self.machine.step(..)
      have st6' : Stp a.own d5.foot H5 d6.foot H6 := st6.mono (fun x hx => by
        simp only [List.mem_cons] at hx
        simp only [FA.own, List.mem_cons]
        rcases hx with h | h | h | h | h
        · exact .inr (.inl h)
        · exact .inr (.inr (.inl h))
        · exact .inr (.inr (.inr (.inl h)))
        · exact .inr (.inr (.inr (.inr (.inl h))))
        · cases h)
      have hh6 : a.h ∉ [a.m, a.c, a.k, a.lw] ++ d5.foot := fun z => by
        rcases List.mem_append.mp z with z | z
        · simp only [List.mem_cons] at z
          rcases z with z | z | z | z | z
          · exact L5.hm z
          · exact (lst_ne_ins L5.mc.hc L5.ob) z.symm
          · exact (lst_ne_ins L5.mc.hk L5.ob) z.symm
          · exact hlw z
          · cases z
        · exact L5.ap a.h (by simp [FA.own]) z
      have L6 : FlAt K H6 { a with da := d6 } { s with S := s.ms.1, ks := s.ms.2.1, took := s.dm.2.1, ws := s.ms.2.2.1 } (s.gnext g) := by
        refine L5.change (s' := { s with S := s.ms.1, ks := s.ms.2.1, took := s.dm.2.1, ws := s.ms.2.2.1 }) rfl rfl st6' ?_ M6 D6 hl6
        rw [le6.d]
        exact st6.kp _ _ L5.ob hh6
      refine augf L6.ob T.cl_Floor T.n_Floor_beats (fl_beats _) (fl_len _) (fl_put_beats _ _) ?_ -- self.beats += 1
      generalize e7 : upd H6 a.h _ = H7
      have k7 : Kept [a.h] H6 H7 := by rw [← e7]; exact (Kept.refl _ _).put (by simp)
      have f7 : ∀ b, H7 b = none → H6 b = none := fun b h => by rw [← e7] at h; exact upd_none h
      have in7 : ∀ b ∈ [a.h], ∃ u, H6 b = some u ∧ notTup u = true := fun b hb => by
        have e : b = a.h := by simpa using hb
        rw [e]
        exact ⟨_, L6.ob, rfl⟩
      have st7 : Stp a.own d6.foot H6 d6.foot H7 := Stp.of (k7.mono (fun x hx => by
        have e : x = a.h := by simpa using hx
        rw [e]
        exact List.mem_append.mpr (.inl (by simp [FA.own])))) f7
      have no1 : ∀ {b : Addr}, b ≠ a.h → b ∉ [a.h] := fun h => by simpa using h
      have L7 : FlAt K H7 { a with da := d6 } s.next (s.gnext g) := by
        refine L6.change (s' := s.next) rfl rfl st7 (by rw [← e7]; exact upd_same) (L6.mc.stay k7 (fun b hb => no1 ?_) in7) (L6.dv.stay k7 (fun b hb => no1 (fun z => L6.ap a.h (by simp [FA.own]) (by rw [← z]; exact hb))) in7) (k7 _ _ L6.wd (no1 (Ne.symm hlw)))
        simp only [List.mem_cons] at hb
        rcases hb with rfl | rfl | rfl | h
        · exact Ne.symm L6.hm
        · exact lst_ne_ins L6.mc.hc L6.ob
        · exact lst_ne_ins L6.mc.hk L6.ob
        · cases h
      refine ⟨_, rfl, ?_⟩ -- moved
      refine ⟨_, rfl, ?_⟩ -- done
      refine ⟨by show 2 ≤ sizeLine; decide, fun p hp => ?_⟩ -- (moved, done)
      have k04 : Stp a.own a.da.foot H d3.foot H4 := k03.trans (Stp.same s4)
      have k05 := k04.trans st5'
      have k07 := (k05.trans st6').trans st7
      have hp0 : H p = none := k07.fr _ hp
      have s8 : Same H7 (upd H7 p (.tup [mv, dv])) := Same.new (Same.refl _) hp
      have k08 : Stp a.own a.da.foot H d6.foot (upd H7 p (.tup [mv, dv])) := k07.trans (Stp.same s8)
      have inF5 : ∀ b ∈ a.own ++ d5.foot, ∃ u, H5 b = some u ∧ notTup u = true := L5.inF
      have inF6 : ∀ b ∈ a.own ++ d6.foot, ∃ u, H6 b = some u ∧ notTup u = true := L6.inF
      have t7 : ∀ q us, H6 q = some (.tup us) → upd H7 p (.tup [mv, dv]) q = some (.tup us) := fun q us h => s8 _ _ (st7.tup inF6 q us h)
      refine q _ { a with da := d6 } _ ⟨rfl, rfl, rfl, (le3.trans le5).trans le6⟩ (L7.same s8) k08.all ⟨p, mv, dv, rfl, hp0, upd_same, ?_, ?_⟩
      · exact (t5.early k04.fr).keep (fun q us h => t7 q us (st6'.tup inF5 q us h))
      · exact (t6.early k05.fr).keep t7
def rowV (s : HS) : V := if s.S.row = s.prog.length then .non else .int s.S.row
structure ShownAt (H H' : Hp) (p c w' k g : Addr) (ps : List Addr) (s : HS) : Prop where
  tup : H' p = some (.tup [.int s.beats, rowV s, .ref c, .ref w', .ref k, .ref g])
  hc : H' c = some (.lst (s.S.cells.map V.int))
  hw : H' w' = some (.lst (s.ws.map V.int))
  hk : H' k = some (.lst (s.S.marks.map V.bl))
  hg : TupsAt H' g ps ((goFrom 0 s.ks).map goV)
  np : H p = none
  nc : H c = none
  nw : H w' = none
  nk : H k = none
  ng : H g = none
  nd : [c, w', k, g].Nodup
def sp_Floor_seen (K : PySem.W.Frag) : Sp := fun vs H Q _ => ∃ (a : FA) (s : HS) (g : GH), vs = [.ref a.h] ∧ FlAt K H a s g ∧ HOk s ∧ ∀ H' p c w' k g ps, ShownAt H H' p c w' k g ps s → Same H H' → Q (.ref p) H'
theorem ok_Floor_seen (T : T w K mg) : FnR P w K mg base CX0 4 (He.ma K (He.ga K "Floor") "seen") (sp_Floor_seen K) := by
  have F_Machine_ended : FnR P w K mg base CX0 1 _ _ := ok_Machine_ended T
  have F_Device_shown_on : FnR P w K mg base CX0 3 _ _ := ok_Device_shown_on T
  obtain ⟨fd, F⟩ := T.f_Floor_seen
  refine F.r sc_Floor_seen (fun _ _ _ _ _ _ us hl => match us, hl with | [_], _ => rfl) (fun vs H Q E h => ?_) (fun cdv A outer s0 H vs Q E hr h => ?_)
  · obtain ⟨_, _, _, rfl, _⟩ := h
    rfl
  · obtain ⟨a, s, g, rfl, L, O, q⟩ := h
    refine ⟨_, (pss_cons (ps_set (i := 1) sc_Floor_seen.nd rfl (Or.inl rfl) (pe_fld (pv 0) rfl))
      (pss_cons (ps_set (i := 2) sc_Floor_seen.nd rfl (Or.inl rfl) (pe_ifExp (pt_val (pe_mth0R (pv 1) T.cl_Machine T.m_Machine_ended F_Machine_ended (hr.mono (by decide)))) pe_non (pe_fld (pv 1) rfl)))
      (pss_one (ps_ret (pe_tup (pa_cons (pe_fld (pv 0) rfl) (pa_cons (pv 2) (pa_cons (pe_callTy call_list_of rfl T.u_list (by decide +kernel) (pa_cons (pe_fld (pv 1) rfl) pa_nil)) (pa_cons (pe_callTy call_list_of rfl T.u_list (by decide +kernel) (pa_cons (pe_fld (pv 0) rfl) pa_nil)) (pa_cons (pe_callTy call_list_of rfl T.u_list (by decide +kernel) (pa_cons (pe_fld (pv 1) rfl) pa_nil)) (pa_cons (pe_mth0R (pe_fld (pv 0) rfl) T.cl_Device T.m_Device_shown_on F_Device_shown_on (hr.mono (by decide))) pa_nil))))))))))), ?_⟩
    refine ⟨_, rfl, _, _, _, _, _, rfl, L.ob, T.cl_Floor, T.n_Floor_machine, fl_machine _, ?_⟩
    refine ⟨_, rfl, ?_⟩ -- machine
    refine ⟨_, _, _, rfl, L.mc.ob, mc_no_ended _, ?_⟩
    refine ⟨_, _, _, _, _, _, _, _, rfl, L.mc, ?_⟩ -- machine.ended()
    refine ⟨_, rfl, ?_⟩ -- test
    have fin : ∀ σ : L2.St, σ[0]? = some (some (.ref a.h)) → σ[1]? = some (some (.ref a.m)) → σ[2]? = some (some (rowV s)) →
        tTup (tCons (tFld K (tVar 0) "beats") (tCons (tVar 2) (tCons (tCB (fun xs H Q => ∃ p ys, xs = [.ref p] ∧ (SqL K H p ys ∨ SqT K H p ys) ∧ ∀ l, H l = none → Q (.ref l) (upd H l (.lst ys))) (tCons (tFld K (tVar 1) "cells") tNil)) (tCons (tCB (fun xs H Q => ∃ p ys, xs = [.ref p] ∧ (SqL K H p ys ∨ SqT K H p ys) ∧ ∀ l, H l = none → Q (.ref l) (upd H l (.lst ys))) (tCons (tFld K (tVar 0) "words") tNil))
          (tCons (tCB (fun xs H Q => ∃ p ys, xs = [.ref p] ∧ (SqL K H p ys ∨ SqT K H p ys) ∧ ∀ l, H l = none → Q (.ref l) (upd H l (.lst ys))) (tCons (tFld K (tVar 1) "marks") tNil)) (tCons (tMethR (He.ga K "Device") "shown_on" (sp_Device_shown_on K) E0 (tFld K (tVar 0) "device") tNil) tNil)))))) σ H Q := by
      intro σ h0 h1 h2
      refine ⟨_, h0, _, _, _, _, _, rfl, L.ob, T.cl_Floor, T.n_Floor_beats, fl_beats _, ?_⟩
      refine ⟨_, h2, ?_⟩ -- row
      refine ⟨_, h1, _, _, _, _, _, rfl, L.mc.ob, T.cl_Machine, T.n_Machine_cells, mc_cells _, ?_⟩
      refine ⟨_, _, rfl, .inl (SqL.of L.mc.hc), fun c hc => ?_⟩ -- list(machine.cells)
      have s1 : Same H (upd H c (.lst (s.S.cells.map V.int))) := Same.new (Same.refl H) hc
      have L1 := L.same s1
      have hc1 : upd H c (.lst (s.S.cells.map V.int)) c = some (.lst (s.S.cells.map V.int)) := upd_same
      generalize upd H c (.lst (s.S.cells.map V.int)) = H1 at s1 L1 hc1
      refine ⟨_, h0, _, _, _, _, _, rfl, L1.ob, T.cl_Floor, T.n_Floor_words, fl_words _, ?_⟩
      refine ⟨_, _, rfl, .inl (SqL.of L1.wd), fun w' hw => ?_⟩ -- list(self.words)
      have s2 : Same H1 (upd H1 w' (.lst (s.ws.map V.int))) := Same.new (Same.refl H1) hw
      have L2 := L1.same s2
      have hw2 : upd H1 w' (.lst (s.ws.map V.int)) w' = some (.lst (s.ws.map V.int)) := upd_same
      generalize upd H1 w' (.lst (s.ws.map V.int)) = H2 at s2 L2 hw2
      refine ⟨_, h1, _, _, _, _, _, rfl, L2.mc.ob, T.cl_Machine, T.n_Machine_marks, mc_marks _, ?_⟩
      refine ⟨_, _, rfl, .inl (SqL.of L2.mc.hk), fun k hk => ?_⟩ -- list(machine.marks)
      have s3 : Same H2 (upd H2 k (.lst (s.S.marks.map V.bl))) := Same.new (Same.refl H2) hk
      have L3 := L2.same s3
      have hk3 : upd H2 k (.lst (s.S.marks.map V.bl)) k = some (.lst (s.S.marks.map V.bl)) := upd_same
      generalize upd H2 k (.lst (s.S.marks.map V.bl)) = H3 at s3 L3 hk3
      refine ⟨_, h0, _, _, _, _, _, rfl, L3.ob, T.cl_Floor, T.n_Floor_device, fl_device _, ?_⟩
      refine ⟨_, _, _, rfl, L3.dv.ob, dv_no_shown_on _, ?_⟩
      refine ⟨a.da, _, _, _, rfl, L3.dv, O.l6, fun H4 g ps hg tg s4 => ?_⟩ -- self.device.goings()
      refine ⟨by show 6 ≤ sizeLine; decide, fun p hp => ?_⟩
      have s5 : Same H4 (upd H4 p (.tup [.int s.beats, rowV s, .ref c, .ref w', .ref k, .ref g])) := Same.new (Same.refl H4) hp
      have s02 := s1.trans s2
      have s03 := s02.trans s3
      have s04 := s03.trans s4
      refine q _ p c w' k g ps ⟨upd_same, ?_, ?_, ?_, tg.keep s5, Same.free s04 hp, hc, Same.free s1 hw, Same.free s02 hk, Same.free s03 hg, ?_⟩ (s04.trans s5)
      · exact s5 _ _ (s4 _ _ (s3 _ _ (s2 _ _ hc1)))
      · exact s5 _ _ (s4 _ _ (s3 _ _ hw2))
      · exact s5 _ _ (s4 _ _ hk3)
      · have cw : c ≠ w' := ne_of_none hc1 hw
        have ck : c ≠ k := ne_of_none (s2 _ _ hc1) hk
        have wk : w' ≠ k := ne_of_none hw2 hk
        have cg : c ≠ g := ne_of_none (s3 _ _ (s2 _ _ hc1)) hg
        have wg : w' ≠ g := ne_of_none (s3 _ _ hw2) hg
        have kg : k ≠ g := ne_of_none hk3 hg
        simp [cw, ck, wk, cg, wg, kg]
    unfold rowV at fin
    refine ite2 (fun c1 => ?_) (fun c1 => ?_)
    · have e : s.S.row = s.prog.length := of_decide_eq_true c1
      rw [if_pos e] at fin
      exact fin _ rfl rfl rfl
    · have e : ¬ s.S.row = s.prog.length := fun z => c1 (decide_eq_true z)
      rw [if_neg e] at fin
      refine ⟨_, rfl, _, _, _, _, _, rfl, L.mc.ob, T.cl_Machine, T.n_Machine_row, mc_row _, ?_⟩
      exact fin _ rfl rfl rfl
end
end SB

set_option Elab.async false
set_option linter.all false
set_option maxRecDepth 100000
set_option maxHeartbeats 2000000
namespace SB
open PySem L2
section
variable {P : Program} {w : World} {K : PySem.W.Frag} {mg : Str → Option Value} {base : Heap} {H H' : Hp} {a : FA} {s : HS} {g : GH}
def HS.at0 (prog : List Row) (asks : List (Int × Int)) (ks : List Wk) (ws : List Int) : HS := ⟨prog, asks, S0, ks.map Wk.fresh, false, ws, 0⟩
def sp_Floor_init (K : PySem.W.Frag) : Sp := fun vs H Q _ => ∃ (h dh pa wl ml al : Addr) (rs ts qs : List Addr) (prog : List Row) (ks : List Wk) (ws : List Int) (as : List (Int × Int)), vs = [.ref h, .ref pa, .ref wl, .ref ml, .ref al] ∧ H h = some (.ins (cFloor K) dh []) ∧
  ProgAt K H pa rs prog ∧ WorksAt K H wl ts ks ∧ ks.length ≤ 6 ∧ (∀ k ∈ ks, 0 < k.many ∧ k.many ≤ 16) ∧ SqL K H ml (ws.map V.int) ∧ AsksAt K H al qs as ∧
  ∀ H' (a : FA), a.h = h → FlAt K H' a (HS.at0 prog as ks ws) (GH.none ks.length) → (∀ b ∈ a.foot, b ≠ h → H b = none) → H a.al = none → Kept [h] H H' → Q .non H'
theorem ok_Floor_init (T : T w K mg) : FnR P w K mg base CX0 5 (He.ma K (He.ga K "Floor") "__init__") (sp_Floor_init K) := by
  have F_Machine_init : FnR P w K mg base CX0 1 _ _ := ok_Machine_init T
  have F_Device_init : FnR P w K mg base CX0 3 _ _ := ok_Device_init T
  obtain ⟨fd, F⟩ := T.f_Floor_init
  refine F.r sc_Floor_init (fun _ _ _ _ _ _ us hl => match us, hl with | [_, _, _, _, _], _ => rfl) (fun vs H Q E h => ?_) (fun cdv A outer s0 H vs Q E hr h => ?_)
  · obtain ⟨_, _, _, _, _, _, _, _, _, _, _, _, _, rfl, _⟩ := h
    rfl
  · obtain ⟨h, dh, pa, wl, ml, al, rs, ts, qs, prog, ks, ws, as, rfl, hself, Pr, W, w6, wok, Ml, As, q⟩ := h
    refine ⟨_, (pss_cons (ps_fld (pv 0) (pe_mkR T.mk_Machine F_Machine_init (hr.mono (by decide)) rfl T.g_Machine (pa_cons (pv 1) pa_nil)) rfl)
      (pss_cons (ps_fld (pv 0) (pe_mkR T.mk_Device F_Device_init (hr.mono (by decide)) rfl T.g_Device (pa_cons (pv 2) pa_nil)) rfl)
      (pss_cons (ps_fld (pv 0) (pe_callTy call_list_of rfl T.u_list (by decide +kernel) (pa_cons (pv 3) pa_nil)) rfl)
      (pss_cons (ps_fld (pv 0) (pe_callTy call_list_of rfl T.u_list (by decide +kernel) (pa_cons (pv 4) pa_nil)) rfl)
      (pss_one (ps_fld (pv 0) pe_int rfl)))))), ?_⟩
    have s3 : Same H H := Same.refl H
    refine ⟨_, rfl, ?_⟩ -- program
    intro m dm nm ndm nem
    have s4 : Same H (upd (upd H dm (.own m)) m (.ins (cMachine K) dm [])) := fun b o e => by
      rw [upd_ne (ne_of_none e nm), upd_ne (ne_of_none e ndm)]
      exact e
    refine ⟨m, dm, pa, rs, prog, rfl, upd_same, (Pr.same s3).same s4, fun H5 c k M5 nc nk k5 => ⟨rfl, ?_⟩⟩ -- Machine(program)
    have s5' : Same H H5 := fun b o e => k5 b o (s4 b o e) (by simpa using ne_of_none e nm)
    have s5 := s3.trans s5'
    have nm0 : H m = none := Same.free s3 nm
    have nc3 : H c = none := Same.free s4 nc
    have nk3 : H k = none := Same.free s4 nk
    have nc0 : H c = none := Same.free s3 nc3
    have nk0 : H k = none := Same.free s3 nk3
    refine stf (s5 _ _ hself) T.cl_Floor T.n_Floor_machine (by decide) rfl ?_ -- self.machine = Machine(program)
    have hm : m ≠ h := ne_of_none' hself nm0
    have hc : c ≠ h := ne_of_none' hself nc0
    have hk : k ≠ h := ne_of_none' hself nk0
    have k6 : Kept [h] H5 (upd H5 h (.ins (cFloor K) dh (putF "machine" (V.ref m) []))) := (Kept.refl _ _).put (by simp)
    have inh : ∀ b ∈ [h], ∃ u, H5 b = some u ∧ notTup u = true := fun b hb => by
      have e : b = h := by simpa using hb
      rw [e]
      exact ⟨_, s5 _ _ hself, rfl⟩
    have M6 : McAt K (upd H5 h (.ins (cFloor K) dh (putF "machine" (V.ref m) []))) m dm pa rs prog c k S0 := ⟨k6 _ _ M5.ob (by simpa using hm), M5.pr.keep k6 inh, k6 _ _ M5.hc (by simpa using hc), k6 _ _ M5.hk (by simpa using hk), M5.ck⟩
    have hh6 : upd H5 h (.ins (cFloor K) dh (putF "machine" (V.ref m) [])) h = some (.ins (cFloor K) dh (putF "machine" (V.ref m) [])) := upd_same
    have kk6 : Kept [h] H (upd H5 h (.ins (cFloor K) dh (putF "machine" (V.ref m) []))) := (Kept.same s5).trans k6
    generalize upd H5 h (.ins (cFloor K) dh (putF "machine" (V.ref m) [])) = H6 at M6 hh6 kk6
    have in0 : ∀ b ∈ [h], ∃ u, H b = some u ∧ notTup u = true := fun b hb => by
      have e : b = h := by simpa using hb
      rw [e]
      exact ⟨_, hself, rfl⟩
    have free0 : ∀ {H9 : Hp} {o : HO} {y : Addr}, Kept [h] H H9 → H9 h = some o → H9 y = none → H y = none := fun {H9 o y} k9 e9 hy => by
      have yh : y ≠ h := fun z => by rw [z, e9] at hy; cases hy
      exact k9.free hy (by simpa using yh)
    have lst_keep : ∀ {H9 : Hp} {b : Addr} {xs : List V}, Kept [h] H H9 → SqL K H b xs → SqL K H9 b xs := fun {H9 b xs} k9 hb => by
      rcases hb with (hb | ⟨o, hb⟩) | hb
      · exact .inl (.inl (k9 _ _ hb (by simpa using lst_ne_ins hb hself)))
      · exact .inl (.inr ⟨o, k9 _ _ hb (by
          have : b ≠ h := ne_of hb hself (by intro z; cases z)
          simpa using this)⟩)
      · exact .inr hb
    have W6 : WorksAt K H6 wl ts ks := ⟨lst_keep kk6 W.lst, W.len, fun j t x h1 h2 => tup_keep (W.at_ j t x h1 h2) kk6 in0⟩
    refine ⟨_, rfl, ?_⟩ -- works
    intro d dd nd ndd ned
    have s7 : Same H6 (upd (upd H6 dd (.own d)) d (.ins (cDevice K) dd [])) := fun b o e => by
      rw [upd_ne (ne_of_none e nd), upd_ne (ne_of_none e ndd)]
      exact e
    refine ⟨d, dd, wl, ts, ks, rfl, upd_same, W6.same s7, by rw [W.len]; exact w6, wok, fun H8 da had D8 nfd k8 f8 => ⟨rfl, ?_⟩⟩ -- Device(works)
    subst had
    have s8 : Same H6 H8 := fun b o e => k8 b o (s7 b o e) (by simpa using ne_of_none e nd)
    have nd0 : H da.d = none := free0 kk6 hh6 nd
    have nf6 : ∀ x ∈ da.foot, H6 x = none := fun x hx => by
      by_cases e : x = da.d
      · rw [e]; exact nd
      · exact Same.free s7 (nfd x hx e)
    have nf0 : ∀ x ∈ da.foot, H x = none := fun x hx => free0 kk6 hh6 (nf6 x hx)
    have hh8 := s8 _ _ hh6
    have M8 := M6.same s8
    have nfo : ∀ {x : Addr} {o : HO}, H6 x = some o → x ∉ da.foot := fun {x o} e z => by rw [nf6 x z] at e; cases e
    have hf : h ∉ da.foot := nfo hh6
    have kk8 : Kept [h] H H8 := kk6.trans (Kept.same s8)
    refine stf hh8 T.cl_Floor T.n_Floor_device (lt1000 (by kernel_rfl)) rfl ?_ -- self.device = Device(works)
    generalize e9 : upd H8 h _ = H9
    have k9 : Kept [h] H8 H9 := by rw [← e9]; exact (Kept.refl _ _).put (by simp)
    have in8 : ∀ b ∈ [h], ∃ u, H8 b = some u ∧ notTup u = true := fun b hb => by
      have e : b = h := by simpa using hb
      rw [e]
      exact ⟨_, hh8, rfl⟩
    have mne : ∀ b ∈ [m, c, k], b ∉ [h] := fun b hb z => by
      have e : b = h := by simpa using z
      simp only [List.mem_cons] at hb
      rcases hb with rfl | rfl | rfl | hb
      · exact hm e
      · exact hc e
      · exact hk e
      · cases hb
    have dne : ∀ b ∈ da.foot, b ∉ [h] := fun b hb z => by
      have e : b = h := by simpa using z
      exact hf (by rw [← e]; exact hb)
    have M9 : McAt K H9 m dm pa rs prog c k S0 := M8.stay k9 mne in8
    have D9 : DevAt K H9 da (ks.map Wk.fresh) false (GH.none ks.length) := D8.stay k9 dne in8
    have hh9 : H9 h = some (.ins (cFloor K) dh (putF "device" (V.ref da.d) (putF "machine" (V.ref m) []))) := by rw [← e9]; exact upd_same
    have kk9 := kk8.trans k9
    refine ⟨_, rfl, ?_⟩ -- memory
    refine ⟨_, _, rfl, .inl (lst_keep kk9 Ml), fun lw hlw => ?_⟩ -- list(memory)
    have slw : Same H9 (upd H9 lw (.lst (ws.map V.int))) := Same.new (Same.refl _) hlw
    have nlw0 : H lw = none := free0 kk9 hh9 hlw
    have lwh : lw ≠ h := ne_of_none' hself nlw0
    refine stf (slw _ _ hh9) T.cl_Floor T.n_Floor_words (lt1000 (by kernel_rfl)) rfl ?_ -- self.words = list(memory)
    generalize e10 : upd (upd H9 lw (.lst (ws.map V.int))) h _ = H10
    have M9' := M9.same slw
    have D9' := D9.same slw
    have k10 : Kept [h] (upd H9 lw (.lst (ws.map V.int))) H10 := by rw [← e10]; exact (Kept.refl _ _).put (by simp)
    have in9 : ∀ b ∈ [h], ∃ u, upd H9 lw (.lst (ws.map V.int)) b = some u ∧ notTup u = true := fun b hb => by
      have e : b = h := by simpa using hb
      rw [e]
      exact ⟨_, slw _ _ hh9, rfl⟩
    have M10 : McAt K H10 m dm pa rs prog c k S0 := M9'.stay k10 mne in9
    have D10 : DevAt K H10 da (ks.map Wk.fresh) false (GH.none ks.length) := D9'.stay k10 dne in9
    have hh10 : H10 h = some (.ins (cFloor K) dh (putF "words" (V.ref lw) (putF "device" (V.ref da.d) (putF "machine" (V.ref m) [])))) := by rw [← e10]; exact upd_same
    have hlw10 : H10 lw = some (.lst (ws.map V.int)) := by rw [← e10, upd_ne lwh]; exact upd_same
    have kk10 : Kept [h] H H10 := (kk9.trans (Kept.same slw)).trans k10
    refine ⟨_, rfl, ?_⟩ -- asks
    refine ⟨_, _, rfl, .inl (lst_keep kk10 As.lst), fun al' hal => ?_⟩ -- list(asks)
    have sal : Same H10 (upd H10 al' (.lst (qs.map V.ref))) := Same.new (Same.refl _) hal
    have nal0 : H al' = none := free0 kk10 hh10 hal
    have alh : al' ≠ h := ne_of_none' hself nal0
    refine stf (sal _ _ hh10) T.cl_Floor T.n_Floor_asks (lt1000 (by kernel_rfl)) rfl ?_ -- self.asks = list(asks)
    refine stf upd_same T.cl_Floor T.n_Floor_beats (lt1000 (by kernel_rfl)) (fl_made m da.d lw al' 0) ?_ -- self.beats = 0
    rw [upd_upd]
    generalize e11 : upd (upd H10 al' (.lst (qs.map V.ref))) h _ = H11
    have M10' := M10.same sal
    have D10' := D10.same sal
    have k11 : Kept [h] (upd H10 al' (.lst (qs.map V.ref))) H11 := by rw [← e11]; exact (Kept.refl _ _).put (by simp)
    have in10 : ∀ b ∈ [h], ∃ u, upd H10 al' (.lst (qs.map V.ref)) b = some u ∧ notTup u = true := fun b hb => by
      have e : b = h := by simpa using hb
      rw [e]
      exact ⟨_, sal _ _ hh10, rfl⟩
    have M11 : McAt K H11 m dm pa rs prog c k S0 := M10'.stay k11 mne in10
    have D11 : DevAt K H11 da (ks.map Wk.fresh) false (GH.none ks.length) := D10'.stay k11 dne in10
    have hh11 : H11 h = some (.ins (cFloor K) dh (flF ⟨m, da.d, lw, al', 0⟩)) := by rw [← e11]; exact upd_same
    have hlw11 : H11 lw = some (.lst (ws.map V.int)) := k11 _ _ (sal _ _ hlw10) (by simpa using lwh)
    have hal11 : H11 al' = some (.lst (qs.map V.ref)) := k11 _ _ upd_same (by simpa using alh)
    have kk11 : Kept [h] H H11 := (kk10.trans (Kept.same sal)).trans k11
    have lwf : lw ∉ da.foot := fun z => by
      obtain ⟨u, hu, _⟩ := D9.inF lw z
      rw [hlw] at hu
      cases hu
    have alf : al' ∉ da.foot := fun z => by
      obtain ⟨u, hu, _⟩ := D10.inF al' z
      rw [hal] at hu
      cases hu
    refine q H11 ⟨h, dh, m, dm, pa, c, k, lw, al', rs, qs, da⟩ rfl ⟨hh11, M11, D11, hlw11, hal11, As.len, fun j t x h1 h2 => tup_keep (As.at_ j t x h1 h2) kk11 in0, fun z => ?_, fun b hb => ?_, Ne.symm hm, ?_, ?_⟩ ?_ nal0 kk11
    · rcases List.mem_append.mp z with z | z
      · have z' : al' ∈ [h, m, c, k, lw] := z
        simp only [List.mem_cons] at z'
        rcases z' with z | z | z | z | z | z
        · exact alh z
        · exact (ne_of_none M10.ob hal) z.symm
        · exact (ne_of_none M10.hc hal) z.symm
        · exact (ne_of_none M10.hk hal) z.symm
        · exact (ne_of_none hlw10 hal) z.symm
        · cases z
      · exact alf z
    · have hb' : b ∈ [h, m, c, k, lw] := hb
      simp only [List.mem_cons] at hb'
      rcases hb' with rfl | rfl | rfl | rfl | rfl | z
      · exact hf
      · exact nfo M6.ob
      · exact nfo M6.hc
      · exact nfo M6.hk
      · exact lwf
      · cases z
    · exact Ne.symm (ne_of_none M9.hc hlw)
    · exact Ne.symm (ne_of_none M9.hk hlw)
    · intro b hb hbh
      rcases List.mem_append.mp hb with hb | hb
      · have hb' : b ∈ [h, m, c, k, lw] := hb
        simp only [List.mem_cons] at hb'
        rcases hb' with rfl | rfl | rfl | rfl | rfl | z
        · exact absurd rfl hbh
        · exact nm0
        · exact nc0
        · exact nk0
        · exact nlw0
        · cases z
      · exact nf0 b hb
def sp_check_hall (K : PySem.W.Frag) : Sp := fun vs H Q _ => ∃ (pa wl ml al : Addr) (rs ts qs : List Addr) (prog : List Row) (ks : List Wk) (ws : List Int) (as : List (Int × Int)), vs = [.ref pa, .ref wl, .ref ml, .ref al] ∧
  ProgAt K H pa rs prog ∧ 0 < prog.length ∧ prog.length ≤ 40 ∧ (∀ r ∈ prog, r.ok prog.length) ∧ WorksAt K H wl ts ks ∧ ks.length ≤ 6 ∧ (∀ k ∈ ks, WOk ks.length k) ∧ SqL K H ml (ws.map V.int) ∧ 4 ≤ ws.length ∧ ws.length ≤ 32 ∧ (∀ x ∈ ws, rg 0 999 x) ∧ AsksAt K H al qs as ∧ AOk ks.length as ∧ ∀ H', Same H H' → Q .non H'
structure HA where
  (h dh : Addr)
  f : FA
def HA.al (a : HA) : Addr := a.f.al
def HA.foot (a : HA) : List Addr := [a.h] ++ a.f.foot
structure HallAt (K : PySem.W.Frag) (H : Hp) (a : HA) (s : HS) (g : GH) : Prop where
  ob : H a.h = some (.ins (cHall K) a.dh (hlF ⟨a.f.h⟩))
  fl : FlAt K H a.f s g
  nh : a.h ∉ a.f.foot
section
variable {a a' : HA}
theorem HallAt.als (L : HallAt K H a s g) : H a.al = some (.lst (a.f.qs.map V.ref)) := L.fl.als
theorem HallAt.inF (L : HallAt K H a s g) : ∀ b ∈ a.foot, ∃ u, H b = some u ∧ notTup u = true := fun b hb => by
  rcases List.mem_append.mp hb with hb | hb
  · have e : b = a.h := by simpa using hb
    rw [e]
    exact ⟨_, L.ob, rfl⟩
  · exact L.fl.inF b hb
theorem HallAt.nal (L : HallAt K H a s g) : a.al ∉ a.foot := fun z => by
  rcases List.mem_append.mp z with z | z
  · have e : a.al = a.h := by simpa using z
    exact (lst_ne_ins L.als L.ob) e
  · exact L.fl.nal z
theorem HallAt.same (L : HallAt K H a s g) (e : Same H H') : HallAt K H' a s g := ⟨e _ _ L.ob, L.fl.same e, L.nh⟩
theorem HallAt.stay (L : HallAt K H a s g) {as : List Addr} (k : Kept as H H') (h : ∀ b ∈ a.foot, b ∉ as) (h2 : a.al ∉ as) (hn : ∀ b ∈ as, ∃ u, H b = some u ∧ notTup u = true) : HallAt K H' a s g :=
  ⟨k _ _ L.ob (h _ (List.mem_append.mpr (.inl (List.mem_singleton.mpr rfl)))), L.fl.stay k (fun b hb => h b (List.mem_append.mpr (.inr hb))) h2 hn, L.nh⟩
structure HLe (a a' : HA) : Prop where
  h : a'.h = a.h
  al : a'.al = a.al
  f : FLe a.f a'.f
theorem HLe.refl (a : HA) : HLe a a := ⟨rfl, rfl, FLe.refl _⟩
theorem HLe.trans {a b c : HA} (x : HLe a b) (y : HLe b c) : HLe a c := ⟨y.h.trans x.h, y.al.trans x.al, x.f.trans y.f⟩
def sp_Hall_beat (K : PySem.W.Frag) : Sp := fun vs H Q _ => ∃ (a : HA) (s : HS) (g : GH), vs = [.ref a.h] ∧ HallAt K H a s g ∧ HOk s ∧ ∀ H' a' v, HLe a a' → HallAt K H' a' s.next (s.gnext g) → Step a.foot H a'.foot H' → ToldB H H' v s.dm.2.2.2 s.ms.2.2.2 → Q v H'
def sp_Hall_shown (K : PySem.W.Frag) : Sp := fun vs H Q _ => ∃ (a : HA) (s : HS) (g : GH), vs = [.ref a.h] ∧ HallAt K H a s g ∧ HOk s ∧ ∀ H' p c w' k g ps, ShownAt H H' p c w' k g ps s → Same H H' → Q (.ref p) H'
def sp_Hall_init (K : PySem.W.Frag) : Sp := fun vs H Q _ => ∃ (h dh pa wl ml al : Addr) (rs ts qs : List Addr) (prog : List Row) (ks : List Wk) (ws : List Int) (as : List (Int × Int)), vs = [.ref h, .ref pa, .ref wl, .ref ml, .ref al] ∧ H h = some (.ins (cHall K) dh []) ∧
  ProgAt K H pa rs prog ∧ 0 < prog.length ∧ prog.length ≤ 40 ∧ (∀ r ∈ prog, r.ok prog.length) ∧ WorksAt K H wl ts ks ∧ ks.length ≤ 6 ∧ (∀ k ∈ ks, WOk ks.length k) ∧ SqL K H ml (ws.map V.int) ∧ 4 ≤ ws.length ∧ ws.length ≤ 32 ∧ (∀ x ∈ ws, rg 0 999 x) ∧ AsksAt K H al qs as ∧ AOk ks.length as ∧
  ∀ H' (a : HA), a.h = h → HallAt K H' a (HS.at0 prog as ks ws) (GH.none ks.length) → (∀ b ∈ a.foot, b ≠ h → H b = none) → H a.al = none → Kept [h] H H' → Q .non H'
end
end
end SB

set_option Elab.async false
set_option linter.all false
set_option maxRecDepth 100000
namespace L2
open PySem PySem.Spec PyProof.Rows
theorem tuple_mul1 (l : Addr) (items : Array Value) (n : Nat) (dd : Option Addr) (sl : Array (Option Value)) (u : Tok) :
    Meets (Builtin.«tuple.__mul__» ⟨[.ref l, .int 1 u], []⟩) (fun _ R s => s.heap.get? l = some { cls := .type "tuple", dict := dd, data := .seq items n, slots := sl } ∧ R (.ok (.ret (Value.ref l))) s) :=
  .of_wp fun prog w A R s h => by
    obtain ⟨hp, g, d, tk, os⟩ := s
    obtain ⟨hl, h⟩ := h
    have f1 := AutoSeq1.idx_int
    have c1 : (items.isEmpty || (1 : Int) == 1) = true := by simp
    wp_walk using wpAny_loadPart' hl
    exact ⟨_, rfl, h⟩
theorem tuple_mul0 (l : Addr) (items : Array Value) (n : Nat) (dd : Option Addr) (sl : Array (Option Value)) (u : Tok) (c1 : (items.isEmpty || (0 : Int) == 1) = false) :
    Meets (Builtin.«tuple.__mul__» ⟨[.ref l, .int 0 u], []⟩) (fun _ R s => s.heap.get? l = some { cls := .type "tuple", dict := dd, data := .seq items n, slots := sl } ∧
      R (.ok (.ret (Value.ref s.heap.objs.size))) { s with heap := s.heap.push { cls := Value.type "tuple", data := Data.seq #[] }, toks := s.toks }) :=
  .of_wp fun prog w A R s h => by
    obtain ⟨hp, g, d, tk, os⟩ := s
    obtain ⟨hl, h⟩ := h
    have f1 := AutoSeq1.idx_int
    wp_walk using wpAny_loadPart' hl
    repeat (first
      | (refine wpAny_ite_false (decide_eq_false (by rw [c1]; exact Bool.false_ne_true)) ?_; wp_walk using wpAny_loadPart' hl))
    exact ⟨_, rfl, h⟩
def rRepA (K : PySem.W.Frag) : R2 := fun x y H Q => ∃ l k xs, x = .ref l ∧ y = .int k ∧ SqT K H l xs ∧ xs ≠ [] ∧ 0 ≤ k ∧ k ≤ 1000 ∧ xs.length ≤ 1000 ∧ (k = 1 → Q (.ref l) H) ∧ (k ≠ 1 → ∀ p, H p = none → Q (.ref p) (upd H p (.tup (List.replicate k.toNat xs).flatten)))
theorem op_repA {X : Cx} : OpR X (binaryOp .Mult) (rRepA X.K) := by
  intro pins s σ H x y v u Q I rx ry h
  obtain ⟨l, k, xs, rfl, rfl, hT, hne, h1, h2, hz, q1, q2⟩ := h
  by_cases hk2 : 2 ≤ k
  · exact op_repT pins s σ H _ _ v u Q I rx ry ⟨l, k, xs, rfl, rfl, hT, hne, hk2, h2, hz, q2 (by omega)⟩
  · cases rx
    obtain ⟨t, rfl⟩ := ry
    obtain ⟨its, r, ⟨⟨cls, dd, data, sl⟩, ho, hc, n, hd⟩, hs⟩ := I.tuple hT
    simp only at hc hd
    subst hc hd
    have hle : its.length = xs.length := r.length.symm
    have hi : its.toArray.isEmpty = false := by
      cases its with
      | nil => exact absurd (List.eq_nil_of_length_eq_zero (by rw [← hle]; rfl)) hne
      | cons a b => rfl
    by_cases hk1 : k = 1
    · subst hk1
      refine wpAny_binaryOp_repeat_ref (T := "tuple") (U := "int") (by decide) ⟨_, ho, rfl⟩ (fun s' => typeIs_int s' 1 t) noFill_tuple_mul F.fills_int_mul F.slot_int_rmul repeat_tuple F.slot_int_index.lookup
        (call_meets F.slot_int_rmul (typeIs_int s 1 t) F.entry_int_rmul (F.args_int_rmul_2 _ _) (int_rmul_tuple 1 t l its.toArray n dd sl)
          ⟨ho, rfl, ⟨_, ho, rfl⟩, call_meets F.slot_tuple_mul ⟨_, ho, rfl⟩ F.entry_tuple_mul (F.args_tuple_mul_2 _ _) (tuple_mul1 l its.toArray n dd sl t) ⟨ho, ?_⟩⟩)
      exact ⟨.ref l, H, I, rfl, q1 rfl⟩
    · have hk0 : k = 0 := by omega
      subst hk0
      refine wpAny_binaryOp_repeat_ref (T := "tuple") (U := "int") (by decide) ⟨_, ho, rfl⟩ (fun s' => typeIs_int s' 0 t) noFill_tuple_mul F.fills_int_mul F.slot_int_rmul repeat_tuple F.slot_int_index.lookup
        (call_meets F.slot_int_rmul (typeIs_int s 0 t) F.entry_int_rmul (F.args_int_rmul_2 _ _) (int_rmul_tuple 0 t l its.toArray n dd sl)
          ⟨ho, rfl, ⟨_, ho, rfl⟩, call_meets F.slot_tuple_mul ⟨_, ho, rfl⟩ F.entry_tuple_mul (F.args_tuple_mul_2 _ _) (tuple_mul0 l its.toArray n dd sl t (by rw [hi]; rfl)) ⟨ho, ?_⟩⟩)
      refine ⟨.ref s.heap.objs.size, _, I.laid (t' := s.toks) (o := .tup []) (fun b ob q => Heap.get?_push_of_some _ q) (Nat.le_refl _) ?_, rfl, q2 (by decide) _ (I.hok.fresh (Nat.le_refl _))⟩
      exact ⟨Nat.zero_le _, [], .nil, IsTup.new _ _⟩
end L2

set_option Elab.async false
set_option linter.all false
set_option maxRecDepth 100000
set_option maxHeartbeats 2000000
namespace SB
open PySem L2
def HS.after (s : HS) : Nat → HS
  | 0 => s
  | n + 1 => (s.after n).next
def HS.gafter (s : HS) (g : GH) : Nat → GH
  | 0 => g
  | n + 1 => (s.after n).gnext (s.gafter g n)
abbrev BeatE := Option (Int × Str × Int × Int) × MT
def HS.ent (s : HS) : BeatE := (s.dm.2.2.2, s.ms.2.2.2)
def HS.log (s : HS) (n : Nat) : List BeatE := (List.range n).map fun i => (s.after i).ent
theorem HS.log_len (s : HS) (n : Nat) : (s.log n).length = n := by unfold HS.log; rw [List.length_map, List.length_range]
theorem HS.log_succ (s : HS) (n : Nat) : s.log (n + 1) = s.log n ++ [(s.after n).ent] := by
  unfold HS.log
  rw [List.range_succ, List.map_append]
  rfl
theorem HOk.after {s : HS} (O : HOk s) : ∀ n, HOk (s.after n)
  | 0 => O
  | n + 1 => (O.after n).next
def TAt (H : Hp) (v : V) : Option (Int × Str × Int × Int) → Prop
  | none => v = .non
  | some (j, z, a, x) => ∃ p, v = .ref p ∧ H p = some (.tup [.int j, .str z, .int a, .int x])
def MAt (H : Hp) (v : V) : MT → Prop
  | .ends => v = .str "ends"
  | .waits => v = .str "waits"
  | .goes => v = .str "goes"
  | .word z a x => ∃ q, v = .ref q ∧ H q = some (.tup [.str z, .int a, .int x])
structure EntAt (H : Hp) (p : Addr) (e : BeatE) (v1 v2 : V) : Prop where
  tup : H p = some (.tup [v1, v2])
  t : TAt H v1 e.1
  m : MAt H v2 e.2
structure LogAt (H : Hp) (l : Addr) (ps : List Addr) (es : List BeatE) : Prop where
  lst : H l = some (.lst (ps.map V.ref))
  len : ps.length = es.length
  at_ : ∀ (j : Nat) (p : Addr) (e : BeatE), ps[j]? = some p → es[j]? = some e → ∃ v1 v2, EntAt H p e v1 v2
section
variable {P : Program} {w : World} {K : PySem.W.Frag} {mg : Str → Option Value} {base : Heap} {H H' : Hp} {as : List Addr}
def Tk (H H' : Hp) : Prop := ∀ b vs, H b = some (.tup vs) → H' b = some (.tup vs)
theorem Tk.of (k : Kept as H H') (hn : ∀ b ∈ as, ∃ u, H b = some u ∧ notTup u = true) : Tk H H' := fun b vs hb => k _ _ hb fun z => by
  obtain ⟨u, hu, nt⟩ := hn b z
  rw [hb] at hu
  cases hu
  cases nt
theorem Tk.same (s : Same H H') : Tk H H' := fun b vs hb => s _ _ hb
theorem Tk.trans {H'' : Hp} (a : Tk H H') (b : Tk H' H'') : Tk H H'' := fun c vs h => b _ _ (a _ _ h)
theorem TAt.keep {v : V} {x : Option (Int × Str × Int × Int)} (h : TAt H v x) (k : Tk H H') : TAt H' v x := by
  cases x with
  | none => exact h
  | some z =>
    obtain ⟨z1, z2, z3, z4⟩ := z
    obtain ⟨p, e, hp⟩ := h
    exact ⟨p, e, k _ _ hp⟩
theorem MAt.keep {v : V} {x : MT} (h : MAt H v x) (k : Tk H H') : MAt H' v x := by
  cases x with
  | word z a y =>
    obtain ⟨p, e, hp⟩ := h
    exact ⟨p, e, k _ _ hp⟩
  | ends => exact h
  | waits => exact h
  | goes => exact h
theorem EntAt.keep {p : Addr} {e : BeatE} {v1 v2 : V} (h : EntAt H p e v1 v2) (k : Tk H H') : EntAt H' p e v1 v2 := ⟨k _ _ h.tup, h.t.keep k, h.m.keep k⟩
theorem LogAt.keep {l : Addr} {ps : List Addr} {es : List BeatE} (h : LogAt H l ps es) (k : Tk H H') (hl : H' l = some (.lst (ps.map V.ref))) : LogAt H' l ps es :=
  ⟨hl, h.len, fun j p e e1 e2 => let ⟨v1, v2, x⟩ := h.at_ j p e e1 e2; ⟨v1, v2, x.keep k⟩⟩
theorem LogAt.same {l : Addr} {ps : List Addr} {es : List BeatE} (h : LogAt H l ps es) (s : Same H H') : LogAt H' l ps es := h.keep (Tk.same s) (s _ _ h.lst)
theorem LogAt.snoc {l : Addr} {ps : List Addr} {es : List BeatE} (h : LogAt H l ps es) {p : Addr} {e : BeatE} {v1 v2 : V} (k : Tk H H') (hp : EntAt H' p e v1 v2) (hl : H' l = some (.lst ((ps ++ [p]).map V.ref))) : LogAt H' l (ps ++ [p]) (es ++ [e]) := by
  refine ⟨hl, by simp [h.len], fun j q e' e1 e2 => ?_⟩
  by_cases hj : j < ps.length
  · rw [List.getElem?_append_left hj] at e1
    rw [List.getElem?_append_left (by rw [← h.len]; exact hj)] at e2
    obtain ⟨u1, u2, x⟩ := h.at_ j q e' e1 e2
    exact ⟨u1, u2, x.keep k⟩
  · have ej : j = ps.length := by
      have := (List.getElem?_eq_some_iff.mp e1).1
      rw [List.length_append] at this
      simp at this
      omega
    subst ej
    rw [List.getElem?_append_right (Nat.le_refl _), Nat.sub_self] at e1
    rw [List.getElem?_append_right (by rw [h.len]; exact Nat.le_refl _), h.len, Nat.sub_self] at e2
    have e5 : p = q := by simpa using e1
    have e6 : e = e' := by simpa using e2
    subst e5 e6
    exact ⟨v1, v2, hp⟩
structure NotIn (R : Addr) (a : HA) : Prop where
  f : R ∉ a.foot
  al : R ≠ a.al
variable {a : HA} {s : HS} {g : GH} {R : Addr} {xs : List V}
theorem HallAt.fresh (L : HallAt K H a s g) (hR : H R = none) : NotIn R a := by
  refine ⟨fun z => ?_, ne_of_none' L.als hR⟩
  obtain ⟨u, hu, _⟩ := L.inF R z
  rw [hR] at hu
  cases hu
theorem HallAt.keepR (L : HallAt K H a s g) (hR : H R = some (.lst xs)) (n : NotIn R a) (k : Kept [R] H H') : HallAt K H' a s g := L.stay k (fun b hb z => n.f (by
    have e : b = R := by simpa using z
    rw [← e]
    exact hb)) (by simpa using Ne.symm n.al) (fun b hb => by
    have e : b = R := by simpa using hb
    rw [e]
    exact ⟨_, hR, rfl⟩)
theorem NotIn.step {a' : HA} {o : HO} (n : NotIn R a) (le : HLe a a') (st : Step a.foot H a'.foot H') (h : H R = some o) : NotIn R a' := ⟨st.apart h n.f, by rw [le.al]; exact n.al⟩
theorem HallAt.nfoot (L : HallAt K H a s g) (hR : H R = none) : R ∉ a.foot := fun z => by
  obtain ⟨u, hu, _⟩ := L.inF R z
  rw [hR] at hu
  cases hu
theorem ToldB.ent {H0 : Hp} {v : V} (h : ToldB H0 H' v s.dm.2.2.2 s.ms.2.2.2) : ∃ p v1 v2, v = .ref p ∧ EntAt H' p s.ent v1 v2 ∧ H0 p = none := by
  obtain ⟨p, v1, v2, e, np, hp, t1, t2⟩ := h
  refine ⟨p, v1, v2, e, ⟨hp, ?_, ?_⟩, np⟩
  · show TAt H' v1 s.dm.2.2.2
    cases hx : s.dm.2.2.2 with
    | none => rw [hx] at t1; exact t1
    | some z =>
      rw [hx] at t1
      obtain ⟨z1, z2, z3, z4⟩ := z
      obtain ⟨y, e, _, hy⟩ := t1
      exact ⟨y, e, hy⟩
  · show MAt H' v2 s.ms.2.2.2
    cases hx : s.ms.2.2.2 with
    | word z a x =>
      rw [hx] at t2
      obtain ⟨y, e, _, hy⟩ := t2
      exact ⟨y, e, hy⟩
    | ends => rw [hx] at t2; exact t2
    | waits => rw [hx] at t2; exact t2
    | goes => rw [hx] at t2; exact t2
theorem ShownAt.out {H0 H1 H2 H3 : Hp} {p c w' k g : Addr} {gs : List Addr} {s : HS} (S : ShownAt H1 H2 p c w' k g gs s) (a : Same H0 H1) (b : Same H2 H3) : ShownAt H0 H3 p c w' k g gs s :=
  ⟨b _ _ S.tup, b _ _ S.hc, b _ _ S.hw, b _ _ S.hk, S.hg.keep b, Same.free a S.np, Same.free a S.nc, Same.free a S.nw, Same.free a S.nk, Same.free a S.ng, S.nd⟩
theorem at0_okW {prog : List Row} {ks : List Wk} {ws : List Int} {as : List (Int × Int)} (pok : ∀ r ∈ prog, r.okW prog.length) (k6 : ks.length ≤ 6) (wok : ∀ k ∈ ks, WOk ks.length k) (w4 : 4 ≤ ws.length) (ao : AOk ks.length as) : HOk (HS.at0 prog as ks ws) := by
  refine ⟨⟨rfl, rfl, Int.le_refl 0, by show (0 : Int) ≤ _; omega, Int.le_refl 0, fun r hr => Row.beats_pos (pok r (List.mem_of_getElem? hr)), pok⟩, by show 0 < ws.length; omega, fun k hk => ?_, fun x hx => (ao.each x hx).2.1, ao.len, by show (ks.map Wk.fresh).length ≤ 6; rw [List.length_map]; omega⟩
  obtain ⟨k0, hk0, rfl⟩ := List.mem_map.mp hk
  have o := wok k0 hk0
  refine ⟨?_, fun i hi => ?_, fun x hx => (o.fo x hx).1⟩
  · have := o.c.1
    show 0 < k0.block
    omega
  · have := o.mar i hi
    have a1 := this.1
    have a2 := this.2
    exact ⟨a1, by omega⟩
theorem at0_ok {prog : List Row} {ks : List Wk} {ws : List Int} {as : List (Int × Int)} (pok : ∀ r ∈ prog, r.ok prog.length) (k6 : ks.length ≤ 6) (wok : ∀ k ∈ ks, WOk ks.length k) (w4 : 4 ≤ ws.length) (ao : AOk ks.length as) : HOk (HS.at0 prog as ks ws) := at0_okW (fun r hr => (pok r hr).w) k6 wok w4 ao
end
end SB

set_option Elab.async false
set_option linter.all false
set_option maxRecDepth 100000
set_option maxHeartbeats 2000000
namespace SB
open PySem L2
structure DiceAt (H : Hp) (d sl : Addr) (f p : Int) (cs : List Int) : Prop where
  ob : H d = some (.lst [.int f, .ref sl, .int p])
  ls : H sl = some (.lst (cs.map V.int))
  f0 : 0 ≤ f
  f1 : f < 2147483647
  p0 : 0 ≤ p
  ne : d ≠ sl
def pyInts (ns : List Int) : List PyData := ns.map PyData.int
theorem dp_ints {K : PySem.W.Frag} {H : Hp} : ∀ ns : List Int, DpAll K H (ns.map V.int) (pyInts ns)
  | [] => .nil
  | n :: r => .cons (.int n) (dp_ints r)
theorem canLay_ints : ∀ ns : List Int, PyData.canLayAll0 (pyInts ns) = true
  | [] => rfl
  | n :: r => by
    show (true && PyData.canLayAll0 (pyInts r)) = true
    rw [canLay_ints r]
    rfl
theorem depth_ints : ∀ ns : List Int, PyData.depthAll (pyInts ns) = 0
  | [] => rfl
  | n :: r => by
    show max 0 (PyData.depthAll (pyInts r)) = 0
    rw [depth_ints r]
    rfl
theorem shaped_ints (ns : List Int) : SeqAt.shaped (.list (pyInts ns)) = true := by
  show (PyData.canLayAll0 (pyInts ns) && decide (PyData.depthAll (pyInts ns) + 1 ≤ 64)) = true
  rw [canLay_ints, depth_ints]
  rfl
theorem eqv_nil (ns : List Int) : PyData.eqv (.list (pyInts ns)) (.list (pyInts [])) = ns.isEmpty := by
  cases ns <;> rfl
section
variable {P : Program} {w : World} {K : PySem.W.Frag} {mg : Str → Option Value} {base : Heap}
def sp_l_dice (K : PySem.W.Frag) : Sp := fun vs H Q _ => ∃ (a : Addr) (ns : List Int) (k : Int), vs = [.ref a, .int k] ∧ SqL K H a (ns.map V.int) ∧ 0 ≤ k ∧ k < 2147483647 ∧ ns.length ≤ 63 ∧
  ∀ H' d sl f, DiceAt H' d sl f 0 ns → H d = none → H sl = none → Same H H' → Q (.ref d) H'
theorem ok_l_dice (T : T w K mg) : FnR P w K mg base CX0 1 (He.ga K "_law_dice") (sp_l_dice K) := by
  obtain ⟨fd, F⟩ := T.f_l_dice
  refine F.r sc_l_dice (fun _ _ _ _ _ _ us hl => match us, hl with | [_, _], _ => rfl) (fun vs H Q E h => ?_) (fun cdv A outer s H vs Q E hr h => ?_)
  · obtain ⟨_, _, _, rfl, _⟩ := h
    rfl
  · obtain ⟨a, ns, k, rfl, hS, k0, k1, hlen, q⟩ := h
    refine ⟨_, (pss_cons (ps_set (i := 2) sc_l_dice.nd rfl (Or.inl rfl) (pv 1))
      (pss_cons (ps_for PassesOwn.never rfl (pi_list (pv 0)) (pg_name (i := 3) sc_l_dice.nd rfl (Or.inl rfl))
      (pss_one (ps_set (i := 2) sc_l_dice.nd rfl (Or.inl rfl) (pe_op op_mod (pe_op op_add (pe_op op_mul (pv 2) pe_int) (pe_callB call_abs rfl T.u_abs (by decide +kernel) (pa_cons (pv 3) pa_nil))) pe_int))))
      (pss_one (ps_ret (pe_lst (pa_cons (pv 2) (pa_cons (pe_callTy call_list_of rfl T.u_list (by decide +kernel) (pa_cons (pv 0) pa_nil)) (pa_cons pe_int pa_nil)))))))), ?_⟩
    refine ⟨_, rfl, ?_⟩ -- _law_k
    refine ⟨_, rfl, a, rfl, ⟨_, hS⟩, for_list (K := K) (a := a) (xs := ns.map V.int) (fun i σ H2 => ∃ (f : Int) (v : Option V), σ = [some (.ref a), some (.int k), some (.int f), v] ∧ H2 = H ∧ 0 ≤ f ∧ f < 2147483647) ⟨k, none, rfl, rfl, k0, k1⟩ (fun i σ H2 _ ⟨_, _, _, e, _⟩ => by rw [e]; exact hS) ?_ ?_⟩
    · rintro i x σ H2 hx ⟨f, v, rfl, rfl, f0, f1⟩
      rw [List.getElem?_map] at hx
      cases hy : ns[i]? with
      | none => rw [hy] at hx; cases hx
      | some y =>
        rw [hy] at hx
        cases hx
        refine ⟨_, rfl, _, _, rfl, rfl, .inr ⟨by decide, by decide⟩, ?_⟩
        refine ⟨_, rfl, _, rfl, _, _, rfl, rfl, _, _, rfl, rfl, (by show (0 : Int) < 2147483647; decide), ?_⟩
        exact ⟨_, _, rfl, rfl, Int.emod_nonneg _ (by decide), Int.emod_lt_of_pos _ (by decide)⟩
    · rintro σ H2 ⟨f, v, rfl, rfl, f0, f1⟩
      refine ⟨_, rfl, _, rfl, _, _, rfl, .inl hS, fun sl hsl => ?_⟩
      refine ⟨by show 3 ≤ sizeLine; decide, fun d hd => ?_⟩
      have dsl : d ≠ sl := fun z => by rw [z, upd_same] at hd; cases hd
      rw [upd_ne dsl] at hd
      exact q _ d sl f ⟨upd_same, by rw [upd_ne (Ne.symm dsl)]; exact upd_same, f0, f1, Int.le_refl 0, dsl⟩ hd hsl (Same.new (Same.new (Same.refl _) hsl) hd)
def sp_l_off (K : PySem.W.Frag) : Sp := fun vs H Q _ => ∃ (d sl : Addr) (f p : Int) (cs : List Int) (most : Int), vs = [.ref d, .int most] ∧ DiceAt H d sl f p cs ∧ cs.length ≤ 63 ∧ 0 < most ∧ most < 1073741824 ∧
  ∀ H' f' p' cs' v, DiceAt H' d sl f' p' cs' → cs'.length = cs.length → Kept [d, sl] H H' → 0 ≤ v → v < most → Q (.int v) H'
theorem ok_l_off (T : T w K mg) : FnR P w K mg base CX0 1 (He.ga K "_law_off") (sp_l_off K) := by
  obtain ⟨fd, F⟩ := T.f_l_off
  refine F.r sc_l_off (fun _ _ _ _ _ _ us hl => match us, hl with | [_, _], _ => rfl) (fun vs H Q E h => ?_) (fun cdv A outer s H vs Q E hr h => ?_)
  · obtain ⟨_, _, _, _, _, _, rfl, _⟩ := h
    rfl
  · obtain ⟨d, sl, f, p, cs, most, rfl, D, c63, m0, m1, q⟩ := h
    have hu := hr.units
    refine ⟨_, (pss_cons (ps_set (i := 2) sc_l_off.nd rfl (Or.inl rfl) (pe_op op_mod (pe_ix ix_list (pv 0) pe_int (fun _ _ => rfl)) (pe_callB (call_max2 rfl) rfl T.u_max (by decide +kernel) (pa_cons pe_int (pa_cons (pe_callB call_len_seq rfl T.u_len PySem.boot_len (pa_cons (pe_ix ix_list (pv 0) pe_int (fun _ _ => rfl)) pa_nil)) pa_nil)))))
      (pss_cons (ps_set (i := 3) sc_l_off.nd rfl (Or.inl rfl) (pe_ifExp (pt_cmpR (op_neD hu) (pe_ix ix_list (pv 0) pe_int (fun _ _ => rfl)) (pe_lst pa_nil) (nomark _)) (pe_ix ix_list (pe_ix ix_list (pv 0) pe_int (fun _ _ => rfl)) (pv 2) (fun _ _ => rfl)) pe_int))
      (pss_cons (ps_if (pt_cmpR op_ge (pv 3) (pe_op op_pow pe_int pe_int) (nomark _))
      (pss_cons (ps_asg (pe_op op_fdiv (pv 3) (pv 1)) (pg_sub (pe_ix ix_list (pv 0) pe_int (fun _ _ => rfl)) (pv 2) set_list))
      (pss_one (ps_ret (pe_op op_mod (pv 3) (pv 1)))))
      pss_nil)
      (pss_cons (ps_asg (pe_op op_mod (pe_op op_add (pe_op op_add (pe_op op_mul (pe_ix ix_list (pv 0) pe_int (fun _ _ => rfl)) pe_int) (pe_op op_mul (pv 3) pe_int)) pe_int) pe_int) (pg_sub (pv 0) pe_int set_list))
      (pss_cons (ps_asg (pe_op op_add (pe_ix ix_list (pv 0) pe_int (fun _ _ => rfl)) pe_int) (pg_sub (pv 0) pe_int set_list))
      (pss_one (ps_ret (pe_op op_mod (pe_op op_fdiv (pe_ix ix_list (pv 0) pe_int (fun _ _ => rfl)) pe_int) (pv 1))))))))), ?_⟩
    refine ⟨_, rfl, _, _, _, _, rfl, rfl, SqL.of D.ob, rfl, ?_⟩ -- _law_d[2]
    refine ⟨_, rfl, _, _, _, _, rfl, rfl, SqL.of D.ob, rfl, ?_⟩ -- _law_d[1]
    refine ⟨_, _, rfl, .inl (SqL.of D.ls), ?_⟩ -- len
    rw [List.length_map]
    refine ⟨_, _, rfl, ?_⟩ -- max
    generalize hmx : (if ((cs.length : Nat) : Int) > 1 then ((cs.length : Nat) : Int) else 1) = mx
    have mx0 : 0 < mx := by rw [← hmx]; split <;> omega
    have mxc : 0 < cs.length → mx ≤ cs.length := fun h => by rw [← hmx]; split <;> omega
    refine ⟨_, _, rfl, rfl, mx0, ?_⟩
    have a0 : 0 ≤ p % mx := Int.emod_nonneg _ (by omega)
    have a1 : p % mx < mx := Int.emod_lt_of_pos _ mx0
    refine ⟨_, rfl, _, _, _, _, rfl, rfl, SqL.of D.ob, rfl, ?_⟩ -- _law_d[1]
    refine ⟨by show 0 ≤ sizeLine; decide, fun e he => ?_⟩ -- []
    have D1s : Same H (upd H e (.lst [])) := Same.new (Same.refl H) he
    have D1 : DiceAt (upd H e (.lst [])) d sl f p cs := ⟨D1s _ _ D.ob, D1s _ _ D.ls, D.f0, D.f1, D.p0, D.ne⟩
    refine ⟨.list (pyInts cs), .list (pyInts []), .lst (SqL.of D1.ls) (dp_ints cs), .lst (SqL.of upd_same) (dp_ints []), shaped_ints cs, shaped_ints [], ?_⟩
    have k1 : Kept [d, sl] H (upd H e (.lst [])) := Kept.same D1s
    generalize upd H e (.lst []) = H1 at D1 k1
    refine ⟨_, rfl, ?_⟩
    have rest : ∀ (cell : Int), (0 < cs.length ∨ cell = 0) → tSeq (tIfS (tTest (tOp (rI0 fun i j => .bl (decide (j ≤ i))) (tVar 3) (tOp (rI CPow fun i j => .int (i ^ j.toNat)) (tC (.int 10)) (tC (.int 18)))))
        (tSeq (tAsg (tOp (rI CDiv fun i j => .int (i / j)) (tVar 3) (tVar 1)) (gSub (tOp (rIxL K) (tVar 0) (tC (.int 1))) (tVar 2) rSetL)) (tRet (tOp (rI (fun _ j => 0 < j) fun i j => .int (i % j)) (tVar 3) (tVar 1)))) tNext)
        (tSeq (tAsg (tOp (rI (fun _ j => 0 < j) fun i j => .int (i % j)) (tOp (rI0 fun i j => .int (i + j)) (tOp (rI0 fun i j => .int (i + j)) (tOp (rI CMul fun i j => .int (i * j)) (tOp (rIxL K) (tVar 0) (tC (.int 0))) (tC (.int 48271))) (tOp (rI CMul fun i j => .int (i * j)) (tVar 3) (tC (.int 69621)))) (tC (.int 11))) (tC (.int 2147483647))) (gSub (tVar 0) (tC (.int 0)) rSetL))
        (tSeq (tAsg (tOp (rI0 fun i j => .int (i + j)) (tOp (rIxL K) (tVar 0) (tC (.int 2))) (tC (.int 1))) (gSub (tVar 0) (tC (.int 2)) rSetL)) (tRet (tOp (rI (fun _ j => 0 < j) fun i j => .int (i % j)) (tOp (rI CDiv fun i j => .int (i / j)) (tOp (rIxL K) (tVar 0) (tC (.int 0))) (tC (.int 64))) (tVar 1)))))
        { nx := fun _ H' => Q .non H', rt := Q } [some (.ref d), some (.int most), some (.int (p % mx)), some (.int cell)] H1 := by
      intro cell hcell
      refine ⟨_, rfl, _, _, rfl, rfl, ⟨by decide, by decide, by decide⟩, _, _, rfl, rfl, _, rfl, ?_⟩
      refine ite2 (fun c1 => ?_) (fun c1 => ?_)
      · have hc0 : 0 < cs.length := by
          rcases hcell with h | h
          · exact h
          · exfalso
            have := of_decide_eq_true c1
            rw [h] at this
            exact absurd this (by decide)
        have hmx' := mxc hc0
        refine ⟨_, rfl, _, rfl, _, _, rfl, rfl, ⟨m0, m1⟩, ?_⟩
        refine ⟨_, rfl, _, _, _, _, rfl, rfl, SqL.of D1.ob, rfl, ?_⟩
        refine ⟨_, rfl, _, _, _, _, rfl, rfl, D1.ls, ix_ok a0 (by rw [List.length_map]; omega), ?_⟩
        rw [set_int]
        refine ⟨_, rfl, _, rfl, _, _, rfl, rfl, m0, ?_⟩
        exact q _ f p _ _ ⟨by rw [upd_ne D1.ne]; exact D1.ob, upd_same, D1.f0, D1.f1, D1.p0, D1.ne⟩ (by rw [List.length_set]) (k1.put (by simp)) (Int.emod_nonneg _ (by omega)) (Int.emod_lt_of_pos _ m0)
      · refine ⟨_, rfl, _, _, _, _, rfl, rfl, SqL.of D1.ob, rfl, _, _, rfl, rfl, .inr ⟨by decide, by decide⟩, ?_⟩
        refine ⟨_, rfl, _, _, rfl, rfl, .inr ⟨by decide, by decide⟩, _, _, rfl, rfl, _, _, rfl, rfl, _, _, rfl, rfl, (by show (0 : Int) < 2147483647; decide), ?_⟩
        refine ⟨_, rfl, _, _, _, _, rfl, rfl, D1.ob, rfl, ?_⟩
        obtain ⟨f', hf⟩ : ∃ f', (f * 48271 + cell * 69621 + 11) % 2147483647 = f' := ⟨_, rfl⟩
        have f0' : 0 ≤ f' := by rw [← hf]; exact Int.emod_nonneg _ (by decide)
        have f1' : f' < 2147483647 := by rw [← hf]; exact Int.emod_lt_of_pos _ (by decide)
        have D2 : DiceAt (upd H1 d (.lst [.int f', .ref sl, .int p])) d sl f' p cs := ⟨upd_same, by rw [upd_ne (Ne.symm D1.ne)]; exact D1.ls, f0', f1', D1.p0, D1.ne⟩
        have k2 : Kept [d, sl] H (upd H1 d (.lst [.int f', .ref sl, .int p])) := k1.put (by simp)
        show (tSeq _ _) _ _ (upd H1 d (.lst [.int ((f * 48271 + cell * 69621 + 11) % 2147483647), .ref sl, .int p]))
        rw [hf]
        generalize upd H1 d (.lst [.int f', .ref sl, .int p]) = H2 at D2 k2
        refine ⟨_, rfl, _, _, _, _, rfl, rfl, SqL.of D2.ob, rfl, _, _, rfl, rfl, ?_⟩
        refine ⟨_, rfl, _, _, _, _, rfl, rfl, D2.ob, rfl, ?_⟩
        have D3 : DiceAt (upd H2 d (.lst [.int f', .ref sl, .int (p + 1)])) d sl f' (p + 1) cs := ⟨upd_same, by rw [upd_ne (Ne.symm D2.ne)]; exact D2.ls, f0', f1', by have := D2.p0; omega, D2.ne⟩
        have k3 : Kept [d, sl] H (upd H2 d (.lst [.int f', .ref sl, .int (p + 1)])) := k2.put (by simp)
        refine ⟨_, rfl, _, _, _, _, rfl, rfl, SqL.of D3.ob, rfl, _, _, rfl, rfl, ⟨by decide, by decide⟩, ?_⟩
        refine ⟨_, rfl, _, _, rfl, rfl, m0, ?_⟩
        exact q _ _ _ cs _ D3 rfl k3 (Int.emod_nonneg _ (by omega)) (Int.emod_lt_of_pos _ m0)
    dsimp only
    rw [eqv_nil]
    cases hcs : cs.isEmpty with
    | true =>
      refine iteF ?_
      exact rest 0 (.inr rfl)
    | false =>
      have hc0 : 0 < cs.length := by
        cases cs with
        | nil => cases hcs
        | cons a b => simp
      have hmx' := mxc hc0
      refine iteT ?_
      refine ⟨_, rfl, _, _, _, _, rfl, rfl, SqL.of D1.ob, rfl, ?_⟩
      refine ⟨_, rfl, _, _, _, _, rfl, rfl, SqL.of D1.ls, at_int a0 (by omega), ?_⟩
      exact rest _ (.inl hc0)
theorem DiceAt.same {H H' : Hp} {d sl : Addr} {f p : Int} {cs : List Int} (D : DiceAt H d sl f p cs) (s : Same H H') : DiceAt H' d sl f p cs := ⟨s _ _ D.ob, s _ _ D.ls, D.f0, D.f1, D.p0, D.ne⟩
theorem DiceAt.keep {H H' : Hp} {d sl : Addr} {f p : Int} {cs : List Int} {as : List Addr} (D : DiceAt H d sl f p cs) (k : Kept as H H') (h1 : d ∉ as) (h2 : sl ∉ as) : DiceAt H' d sl f p cs := ⟨k _ _ D.ob h1, k _ _ D.ls h2, D.f0, D.f1, D.p0, D.ne⟩
end
end SB

set_option Elab.async false
set_option linter.all false
set_option maxRecDepth 100000
set_option maxHeartbeats 2000000
namespace SB
open PySem L2
def dT : Option (Int × Str × Int × Int) → PyData
  | none => .none
  | some (j, z, a, x) => .tuple [.int j, .str z, .int a, .int x]
def dM : MT → PyData
  | .ends => .str "ends"
  | .waits => .str "waits"
  | .goes => .str "goes"
  | .word z a x => .tuple [.str z, .int a, .int x]
def dE (e : BeatE) : PyData := .tuple [dT e.1, dM e.2]
def WdOk (z : Str) : Prop := z = "get" ∨ z = "put"
structure EOk (e : BeatE) : Prop where
  t : ∀ j z a x, e.1 = some (j, z, a, x) → WdOk z
  m : ∀ z a x, e.2 = .word z a x → WdOk z
theorem wd_lay {z : Str} (h : WdOk z) : PyData.canLay0 (.str z) = true := by
  rcases h with rfl | rfl <;> decide +kernel
theorem dT_lay {t : Option (Int × Str × Int × Int)} (h : ∀ j z a x, t = some (j, z, a, x) → WdOk z) : PyData.canLay0 (dT t) = true := by
  cases t with
  | none => rfl
  | some y =>
    obtain ⟨j, z, a, x⟩ := y
    have := wd_lay (h j z a x rfl)
    show (true && (PyData.canLay0 (.str z) && (true && (true && true)))) = true
    rw [this]
    rfl
theorem dM_lay {t : MT} (h : ∀ z a x, t = .word z a x → WdOk z) : PyData.canLay0 (dM t) = true := by
  cases t with
  | word z a x =>
    have := wd_lay (h z a x rfl)
    show (PyData.canLay0 (.str z) && (true && (true && true))) = true
    rw [this]
    rfl
  | ends => decide +kernel
  | waits => decide +kernel
  | goes => decide +kernel
theorem dE_lay {e : BeatE} (h : EOk e) : PyData.canLay0 (dE e) = true := by
  show (PyData.canLay0 (dT e.1) && (PyData.canLay0 (dM e.2) && true)) = true
  rw [dT_lay h.t, dM_lay h.m]
  rfl
theorem dT_deep (t : Option (Int × Str × Int × Int)) : PyData.depth (dT t) ≤ 1 := by
  cases t with
  | none => exact Nat.zero_le _
  | some y => obtain ⟨j, z, a, x⟩ := y; exact Nat.le_refl _
theorem dM_deep (t : MT) : PyData.depth (dM t) ≤ 1 := by
  cases t <;> first | exact Nat.zero_le _ | exact Nat.le_refl _
theorem dE_deep (e : BeatE) : PyData.depth (dE e) ≤ 2 := by
  have h1 := dT_deep e.1
  have h2 := dM_deep e.2
  show max (PyData.depth (dT e.1)) (max (PyData.depth (dM e.2)) 0) + 1 ≤ 2
  omega
theorem lay_all {α : Type} {f : α → PyData} : ∀ xs : List α, (∀ x ∈ xs, PyData.canLay0 (f x) = true) → PyData.canLayAll0 (xs.map f) = true
  | [], _ => rfl
  | x :: r, h => by
    show (PyData.canLay0 (f x) && PyData.canLayAll0 (r.map f)) = true
    rw [h x List.mem_cons_self, lay_all r (fun y hy => h y (List.mem_cons_of_mem _ hy))]
    rfl
theorem deep_all {α : Type} {f : α → PyData} {n : Nat} (h : ∀ x, PyData.depth (f x) ≤ n) : ∀ xs : List α, PyData.depthAll (xs.map f) ≤ n
  | [] => Nat.zero_le _
  | x :: r => by
    have h1 := h x
    have h2 := deep_all h r
    show max (PyData.depth (f x)) (PyData.depthAll (r.map f)) ≤ n
    omega
theorem shaped_all {α : Type} {f : α → PyData} {n : Nat} (hn : n < 64) (xs : List α) (h : ∀ x ∈ xs, PyData.canLay0 (f x) = true) (hd : ∀ x, PyData.depth (f x) ≤ n) : SeqAt.shaped (.list (xs.map f)) = true := by
  have := deep_all hd xs
  show (PyData.canLayAll0 (xs.map f) && decide (PyData.depthAll (xs.map f) + 1 ≤ 64)) = true
  rw [lay_all xs h, decide_eq_true (by omega)]
  rfl
theorem eqv_self {d : PyData} (h : SeqAt.shaped d = true) : PyData.eqv d d = true := SeqAt.eqv_refl d (SeqAt.canLay_of_shaped h)
section
variable {K : PySem.W.Frag} {H : Hp}
theorem dpAll_of {α : Type} {f : α → PyData} : ∀ (ps : List Addr) (es : List α), ps.length = es.length → (∀ (j : Nat) (p : Addr) (e : α), ps[j]? = some p → es[j]? = some e → Dp K H (.ref p) (f e)) → DpAll K H (ps.map V.ref) (es.map f)
  | [], [], _, _ => .nil
  | [], _ :: _, h, _ => by simp at h
  | _ :: _, [], h, _ => by simp at h
  | p :: ps, e :: es, h, g => .cons (g 0 p e rfl rfl) (dpAll_of ps es (by simpa using h) (fun j q d h1 h2 => g (j + 1) q d (by simpa using h1) (by simpa using h2)))
theorem TAt.dp {v : V} {t : Option (Int × Str × Int × Int)} (h : TAt H v t) : Dp K H v (dT t) := by
  cases t with
  | none =>
    have e : v = .non := h
    rw [e]
    exact .non
  | some y =>
    obtain ⟨j, z, a, x⟩ := y
    obtain ⟨p, rfl, hp⟩ := h
    exact .tup (SqT.of hp) (.cons (.int _) (.cons (.str _) (.cons (.int _) (.cons (.int _) .nil))))
theorem MAt.dp {v : V} {t : MT} (h : MAt H v t) : Dp K H v (dM t) := by
  cases t with
  | word z a x =>
    obtain ⟨p, rfl, hp⟩ := h
    exact .tup (SqT.of hp) (.cons (.str _) (.cons (.int _) (.cons (.int _) .nil)))
  | ends => have e : v = .str "ends" := h; rw [e]; exact .str _
  | waits => have e : v = .str "waits" := h; rw [e]; exact .str _
  | goes => have e : v = .str "goes" := h; rw [e]; exact .str _
theorem EntAt.dp {p : Addr} {e : BeatE} {v1 v2 : V} (h : EntAt H p e v1 v2) : Dp K H (.ref p) (dE e) := .tup (SqT.of h.tup) (.cons h.t.dp (.cons h.m.dp .nil))
theorem LogAt.dpAll {l : Addr} {ps : List Addr} {es : List BeatE} (h : LogAt H l ps es) : DpAll K H (ps.map V.ref) (es.map dE) :=
  dpAll_of ps es h.len (fun j p e h1 h2 => let ⟨_, _, x⟩ := h.at_ j p e h1 h2; x.dp)
end
theorem word_ok {r : Row} {spent : Int} {cells : List Int} {z : Str} {p c : Int} (h : r.word spent cells = some (z, p, c)) : WdOk z := by
  cases r <;> simp [Row.word] at h <;> first | exact .inl h.1.symm | exact .inr h.1.symm
theorem ent_ok (s : HS) : EOk s.ent := by
  constructor
  · intro j z a x h
    have h' : s.dm.2.2.2 = some (j, z, a, x) := h
    unfold HS.dm devMove at h'
    cases e : (askAll s.beats s.ks s.asks).findIdx? (takes s.S.marks (wantedOf s.prog s.S).isSome s.took) with
    | none => rw [e] at h'; cases h'
    | some i =>
      rw [e] at h'
      cases e2 : (askAll s.beats s.ks s.asks)[i]? with
      | none => simp only [e2] at h'; cases h'
      | some k =>
        simp only [e2] at h'
        have h2 := Option.some.inj h'
        unfold Wk.move at h2
        cases e3 : k.hand with
        | none =>
          rw [e3] at h2
          simp only [Prod.mk.injEq] at h2
          exact .inl h2.2.1.symm
        | some y =>
          rw [e3] at h2
          simp only [Prod.mk.injEq] at h2
          exact .inr h2.2.1.symm
  · intro z a x h
    have h' : s.ms.2.2.2 = .word z a x := h
    unfold HS.ms mstep at h'
    cases e : s.prog[s.S.row.toNat]? with
    | none => rw [e] at h'; cases h'
    | some r =>
      rw [e] at h'
      cases e2 : r.word s.S.spent s.S.cells with
      | none => simp only [e2] at h'; cases h'
      | some y =>
        obtain ⟨y1, y2, y3⟩ := y
        simp only [e2] at h'
        split at h'
        · cases h'
        · cases h'
          exact word_ok e2
theorem log_lay (s : HS) (n : Nat) : ∀ e ∈ s.log n, PyData.canLay0 (dE e) = true := fun e he => by
  unfold HS.log at he
  obtain ⟨i, _, rfl⟩ := List.mem_map.mp he
  exact dE_lay (ent_ok _)
theorem shaped_log {es : List BeatE} (h : ∀ e ∈ es, PyData.canLay0 (dE e) = true) : SeqAt.shaped (.list (es.map dE)) = true := shaped_all (by decide) es h dE_deep
theorem shaped_tolds {ts : List (Int × Str × Int × Int)} (h : ∀ t ∈ ts, WdOk t.2.1) : SeqAt.shaped (.list (ts.map fun t => dT (some t))) = true :=
  shaped_all (n := 1) (by decide) ts (fun t ht => dT_lay (fun j z a x e => by cases e; exact h _ ht)) (fun t => dT_deep _)
def tv (t : Int × Str × Int × Int) : List V := [.int t.1, .str t.2.1, .int t.2.2.1, .int t.2.2.2]
theorem tolds_dp {K : PySem.W.Frag} {H : Hp} {D : Addr} {ps : List Addr} {ts : List (Int × Str × Int × Int)} (h : TupsAt H D ps (ts.map tv)) : Dp K H (.ref D) (.list (ts.map fun t => dT (some t))) := by
  refine .lst (SqL.of h.lst) (dpAll_of ps ts (by rw [h.len, List.length_map]) (fun j p e h1 h2 => ?_))
  have := h.at_ j p (tv e) h1 (by rw [List.getElem?_map, h2]; rfl)
  obtain ⟨j, z, a, x⟩ := e
  exact .tup (SqT.of this) (.cons (.int _) (.cons (.str _) (.cons (.int _) (.cons (.int _) .nil))))
theorem TupsAt.push {H : Hp} {D p : Addr} {ps : List Addr} {vss : List (List V)} {vs : List V} (t : TupsAt H D ps vss) (hp : H p = some (.tup vs)) : TupsAt (upd H D (.lst ((ps ++ [p]).map V.ref))) D (ps ++ [p]) (vss ++ [vs]) := by
  have nD : ∀ {q : Addr} {us : List V}, H q = some (.tup us) → upd H D (.lst ((ps ++ [p]).map V.ref)) q = some (.tup us) := fun {q us} hq => by
    have h1 : q ≠ D := ne_of hq t.lst (by intro z; cases z)
    rw [upd_ne h1]
    exact hq
  refine ⟨upd_same, by simp [t.len], fun j q us e1 e2 => ?_⟩
  by_cases hj : j < ps.length
  · rw [List.getElem?_append_left hj] at e1
    rw [List.getElem?_append_left (by rw [← t.len]; exact hj)] at e2
    exact nD (t.at_ j q us e1 e2)
  · have ej : j = ps.length := by
      have := (List.getElem?_eq_some_iff.mp e1).1
      rw [List.length_append] at this
      simp at this
      omega
    subst ej
    rw [List.getElem?_append_right (Nat.le_refl _), Nat.sub_self] at e1
    rw [List.getElem?_append_right (by rw [t.len]; exact Nat.le_refl _), t.len, Nat.sub_self] at e2
    have e5 : p = q := by simpa using e1
    have e6 : vs = us := by simpa using e2
    subst e5 e6
    exact nD hp
theorem cut_take {xs : List V} {n : Nat} : cutV xs none (some (n : Int)) = xs.take n := by
  unfold cutV
  rw [HT.sIx_nat]
  show (xs.drop 0).take (min n xs.length - 0) = _
  rw [List.drop_zero, Nat.sub_zero]
  by_cases h : n ≤ xs.length
  · rw [Nat.min_eq_left h]
  · rw [Nat.min_eq_right (by omega), List.take_of_length_le (Nat.le_refl _), List.take_of_length_le (by omega)]
theorem cut_mid {xs : List V} {a b : Nat} (h : a + b ≤ xs.length) : cutV xs (some (a : Int)) (some ((a + b : Nat) : Int)) = (xs.drop a).take b := by
  unfold cutV
  rw [HT.sIx_nat, HT.sIx_nat, Nat.min_eq_left h, Nat.min_eq_left (show a ≤ xs.length by omega)]
  congr 1
  omega
end SB

set_option Elab.async false
set_option linter.all false
set_option maxRecDepth 100000
set_option maxHeartbeats 2000000
namespace SB
open PySem L2
abbrev Pq := Int × (Int × Int) × (Int × Int)
structure WP where
  pr : List Pq
  fg : Option (Int × Int)
def WP.note (wp : WP) (row when ad : Int) (last : Bool) : WP := if last = true then { wp with pr := wp.pr ++ [(row, wp.fg.getD (0, 0), (when, ad))] } else { wp with fg := some (when, ad) }
def wpnext (s : HS) (wp : WP) : WP := match s.prog[s.S.row.toNat]? with
  | some (.pair _ _) => (match s.ent.2 with
    | .word _ ad _ => wp.note s.S.row s.beats ad (decide (s.next.S.spent = 0))
    | _ => wp)
  | _ => wp
def WP.nil : WP := ⟨[], none⟩
def wpN (s : HS) : Nat → WP
  | 0 => WP.nil
  | n + 1 => wpnext (s.after n) (wpN s n)
def Fgi (s : HS) (wp : WP) : Prop := ∀ a c, s.prog[s.S.row.toNat]? = some (.pair a c) → s.S.spent = 1 → wp.fg ≠ none
theorem eff_sp0 {n : Nat} {S : MS} {ks : List Wk} {r : Row} : (eff n S ks r).1.spent = 0 := by cases r <;> rfl
theorem pair_ms {s : HS} {a c : Int} (hr : s.prog[s.S.row.toNat]? = some (.pair a c)) : (s.dm.2.1 = true ∧ s.ent.2 = .waits ∧ s.next.S = s.S) ∨
    (s.dm.2.1 = false ∧ (∃ v, s.ent.2 = .word "get" ((c + s.S.spent) % s.ws.length) v) ∧ s.next.S.spent = (if s.S.spent + 1 = 2 then 0 else s.S.spent + 1) ∧ (s.S.spent + 1 ≠ 2 → s.next.S.row = s.S.row)) := by
  have e1 : s.ent.2 = s.ms.2.2.2 := rfl
  have e2 : s.next.S = s.ms.1 := rfl
  have ew : (Row.pair a c).word s.S.spent s.S.cells = some (("get" : Str), c + s.S.spent, a + s.S.spent) := rfl
  have hl : s.dm.2.2.1.length = s.ws.length := by unfold HS.dm; exact devMove_len.2
  cases ht : s.dm.2.1 with
  | true =>
    have em : s.ms = (s.S, s.dm.1, s.dm.2.2.1, .waits) := by
      unfold HS.ms mstep
      simp only [hr, ew, ht, if_true]
    exact .inl ⟨rfl, by rw [e1, em], by rw [e2, em]⟩
  | false =>
    have em : ∃ x y v, s.ms = ((tick s.prog.length { s.S with cells := (useW "get" (c + s.S.spent) (a + s.S.spent) s.S.cells s.dm.2.2.1).1, spent := s.S.spent + 1 } s.dm.1 (.pair a c)).1, x, y, .word "get" ((c + s.S.spent) % s.ws.length) v) := by
      unfold HS.ms mstep
      simp only [hr, ew, ht, Bool.false_eq_true, if_false]
      have eu : (useW "get" (c + s.S.spent) (a + s.S.spent) s.S.cells s.dm.2.2.1).2.2.1 = (c + s.S.spent) % s.ws.length := by
        rw [← hl]
        unfold useW
        rw [if_pos rfl]
      rw [eu]
      exact ⟨_, _, _, rfl⟩
    obtain ⟨x, y, v, em⟩ := em
    refine .inr ⟨rfl, ⟨v, by rw [e1, em]⟩, ?_, ?_⟩
    · rw [e2, em]
      unfold tick
      dsimp only
      show (if s.S.spent + 1 = 2 then _ else _ : MS × List Wk).1.spent = _
      by_cases q : s.S.spent + 1 = 2
      · rw [if_pos q, if_pos q]
        exact eff_sp0
      · rw [if_neg q, if_neg q]
    · intro q
      rw [e2, em]
      unfold tick
      dsimp only
      show (if s.S.spent + 1 = 2 then _ else _ : MS × List Wk).1.row = _
      rw [if_neg q]
theorem wp_keep {s : HS} {wp : WP} (h : s.ent.2 = .waits ∨ s.ent.2 = .ends) : wpnext s wp = wp := by
  unfold wpnext
  split
  · rcases h with h | h <;> rw [h]
  · rfl
theorem wp_other {s : HS} {wp : WP} {r : Row} (hr : s.prog[s.S.row.toNat]? = some r) (h : ∀ a c, r ≠ .pair a c) : wpnext s wp = wp := by
  unfold wpnext
  rw [hr]
  split
  · rename_i a c e
    exact absurd (Option.some.inj e) (h _ _)
  · rfl
theorem wp_pair {s : HS} {wp : WP} {a c : Int} {z : Str} {ad v : Int} (hr : s.prog[s.S.row.toNat]? = some (.pair a c)) (he : s.ent.2 = .word z ad v) : wpnext s wp = wp.note s.S.row s.beats ad (decide (s.next.S.spent = 0)) := by
  unfold wpnext
  rw [hr, he]
theorem Fgi.next {s : HS} {wp : WP} (h : Fgi s wp) : Fgi s.next (wpnext s wp) := by
  intro a c hp h1
  have e2 : s.next.S = s.ms.1 := rfl
  have hp : s.prog[s.next.S.row.toNat]? = some (.pair a c) := hp
  cases hr : s.prog[s.S.row.toNat]? with
  | none =>
    have em : s.ms.1 = s.S := by
      unfold HS.ms mstep
      simp only [hr]
    rw [e2, em, hr] at hp
    cases hp
  | some r =>
    by_cases hpr : ∃ a' c', r = .pair a' c'
    · obtain ⟨a', c', rfl⟩ := hpr
      rcases pair_ms hr with ⟨_, k1, k2⟩ | ⟨_, ⟨v, k1⟩, k2, k3⟩
      · rw [wp_keep (.inl k1)]
        rw [k2] at hp h1
        exact h a c hp h1
      · rw [wp_pair hr k1]
        have hn : ¬ s.next.S.spent = 0 := by rw [h1]; decide
        unfold WP.note
        rw [decide_eq_false hn]
        exact fun z => by cases z
    · exfalso
      have hne : ∀ a' c', r ≠ .pair a' c' := fun a' c' z => hpr ⟨a', c', z⟩
      have key : ∀ (S1 : MS) (ks : List Wk), S1.row = s.S.row → (tick s.prog.length S1 ks r).1.spent = 1 → s.prog[(tick s.prog.length S1 ks r).1.row.toNat]? = some (.pair a c) → False := by
        intro S1 ks e3 t1 t2
        unfold tick at t1 t2
        by_cases q : S1.spent = r.beats
        · rw [if_pos q, eff_sp0] at t1
          exact absurd t1 (by decide)
        · rw [if_neg q] at t2
          rw [e3, hr] at t2
          exact hne _ _ (Option.some.inj t2)
      rw [e2] at h1 hp
      unfold HS.ms mstep at h1 hp
      simp only [hr] at h1 hp
      cases hw : r.word s.S.spent s.S.cells with
      | none =>
        simp only [hw] at h1 hp
        exact key { s.S with spent := s.S.spent + 1 } _ rfl h1 hp
      | some zz =>
        obtain ⟨z, p, cl⟩ := zz
        simp only [hw] at h1 hp
        cases ht : s.dm.2.1 with
        | true =>
          simp only [ht, if_true] at h1 hp
          rw [hr] at hp
          exact hne _ _ (Option.some.inj hp)
        | false =>
          simp only [ht, Bool.false_eq_true, if_false] at h1 hp
          exact key { s.S with cells := (useW z p cl s.S.cells s.dm.2.2.1).1, spent := s.S.spent + 1 } _ rfl h1 hp
structure PairsAt (H : Hp) (R : Addr) (ps : List Addr) (ys : List Pq) : Prop where
  lst : H R = some (.lst (ps.map V.ref))
  len : ps.length = ys.length
  at_ : ∀ (j : Nat) (p : Addr) (y : Pq), ps[j]? = some p → ys[j]? = some y → ∃ t1 t2, H p = some (.tup [.int y.1, .ref t1, .ref t2]) ∧ H t1 = some (.tup [.int y.2.1.1, .int y.2.1.2]) ∧ H t2 = some (.tup [.int y.2.2.1, .int y.2.2.2])
theorem PairsAt.keep {H H' : Hp} {R : Addr} {ps : List Addr} {ys : List Pq} (h : PairsAt H R ps ys) (k : Tk H H') (hl : H' R = some (.lst (ps.map V.ref))) : PairsAt H' R ps ys :=
  ⟨hl, h.len, fun j p y e1 e2 => let ⟨t1, t2, h1, h2, h3⟩ := h.at_ j p y e1 e2; ⟨t1, t2, k _ _ h1, k _ _ h2, k _ _ h3⟩⟩
theorem PairsAt.same {H H' : Hp} {R : Addr} {ps : List Addr} {ys : List Pq} (h : PairsAt H R ps ys) (s : Same H H') : PairsAt H' R ps ys := h.keep (Tk.same s) (s _ _ h.lst)
theorem PairsAt.push {H : Hp} {R p t1 t2 : Addr} {ps : List Addr} {ys : List Pq} {y : Pq} (h : PairsAt H R ps ys) (h1 : H p = some (.tup [.int y.1, .ref t1, .ref t2])) (h2 : H t1 = some (.tup [.int y.2.1.1, .int y.2.1.2])) (h3 : H t2 = some (.tup [.int y.2.2.1, .int y.2.2.2])) : PairsAt (upd H R (.lst ((ps ++ [p]).map V.ref))) R (ps ++ [p]) (ys ++ [y]) := by
  have tk : Tk H (upd H R (.lst ((ps ++ [p]).map V.ref))) := fun b vs hb => by
    rw [upd_ne (ne_of hb h.lst (by intro z; cases z))]
    exact hb
  refine ⟨upd_same, by simp [h.len], fun j q x e1 e2 => ?_⟩
  by_cases hj : j < ps.length
  · rw [List.getElem?_append_left hj] at e1
    rw [List.getElem?_append_left (by rw [← h.len]; exact hj)] at e2
    obtain ⟨u1, u2, k1, k2, k3⟩ := h.at_ j q x e1 e2
    exact ⟨u1, u2, tk _ _ k1, tk _ _ k2, tk _ _ k3⟩
  · rw [List.getElem?_append_right (by omega)] at e1
    rw [List.getElem?_append_right (by rw [← h.len]; omega)] at e2
    have h0 : j - ps.length = 0 := by
      have := (List.getElem?_eq_some_iff.mp e1).1
      simpa using this
    rw [h0] at e1
    rw [← h.len, h0] at e2
    cases e1
    cases e2
    exact ⟨t1, t2, tk _ _ h1, tk _ _ h2, tk _ _ h3⟩
def FgAt (H : Hp) (o : Option Addr) : Option (Int × Int) → Prop
  | none => True
  | some x => ∃ t, o = some t ∧ H t = some (.tup [.int x.1, .int x.2])
theorem FgAt.keep {H H' : Hp} {o : Option Addr} {x : Option (Int × Int)} (h : FgAt H o x) (k : Tk H H') : FgAt H' o x := by
  cases x with
  | none => trivial
  | some x =>
    obtain ⟨t, e, ht⟩ := h
    exact ⟨t, e, k _ _ ht⟩
end SB

set_option Elab.async false
set_option linter.all false
set_option maxRecDepth 100000
set_option maxHeartbeats 2000000
namespace SB
open PySem L2
def rInT (K : PySem.W.Frag) : R2 := fun x y H Q => ∃ d ds, Dp K H x d ∧ Dp K H y (.tuple ds) ∧ SeqAt.shaped d = true ∧ SeqAt.shaped (.tuple ds) = true ∧ Q (.bl (ds.any fun z => PyData.eqv z d)) H
theorem op_inT {X : Cx} (hu : X.A.units + 65 < cLine) : OpR X (compareOp .In) (rInT X.K) := by
  intro pins s σ H x y v u Q I rx ry h
  obtain ⟨d, ds, hd, he, sd, se, q⟩ := h
  obtain ⟨as, r1⟩ := Dp.reads I d x v hd rx
  obtain ⟨bs, r2⟩ := Dp.reads I (.tuple ds) y u he ry
  exact SeqAt.in_tuple_reads r2 r1 (SeqAt.canLay_of_shaped se) (SeqAt.canLay_of_shaped sd) (PyProof.Rows.room_in_shaped sd hu) ⟨.bl _, H, I, rfl, q⟩
structure WaA where
  (wt dw dn ob pr gl : Addr)
  fg : Option Addr
  f : FA
def WaA.own (b : WaA) : List Addr := [b.wt, b.dn, b.ob, b.pr, b.gl]
def WaA.foot (b : WaA) : List Addr := b.own ++ b.f.foot
structure WatchAt (K : PySem.W.Frag) (H : Hp) (b : WaA) (s : HS) (g : GH) (n : Nat) (dnf : Int → Option Int) (wp : WP) : Prop where
  wo : H b.wt = some (.ins (cWatch K) b.dw (waF ⟨b.f.h, b.dn, b.ob, b.pr, b.fg, b.gl⟩))
  fl : FlAt K H b.f s g
  dn : ∃ kvs : List (Key × V), H b.dn = some (.dK kvs) ∧ kvs.length ≤ n ∧ ∀ r : Int, valV kvs (.inl r) = (dnf r).map V.int
  ob : ∃ kvs : List (Key × V), H b.ob = some (.dK kvs) ∧ kvs.length ≤ n
  pr : ∃ ps, PairsAt H b.pr ps wp.pr
  gl : H b.gl = some (.lst (b.f.da.gas.map fun x => V.ref x.g))
  glen : g.G.length ≤ 1001 * n
  ap : ∀ x ∈ b.own, x ∉ b.f.foot
  nal : ∀ x ∈ b.own, x ≠ b.f.al
  nd : b.own.Nodup
  prl : wp.pr.length ≤ n
  fgA : FgAt H b.fg wp.fg
  fgi : Fgi s wp
def HS.doneB (s : HS) : Bool := match s.ent.2 with
  | .waits => false
  | .ends => false
  | _ => decide (s.next.S.spent = 0)
def dnext (s : HS) (dnf : Int → Option Int) : Int → Option Int := fun r => if s.doneB = true ∧ s.S.row = r then (match dnf r with
  | none => some s.beats
  | some x => some x) else dnf r
theorem gnext_nb (s : HS) (g : GH) : (s.gnext g).nb = g.G.length ∧ (s.gnext g).G.length ≤ g.G.length + 8 + 1 + 1 ∨ 8 < (askedOf s).length := by
  by_cases h8 : (askedOf s).length ≤ 8
  · refine .inl ?_
    have h1 := GH.startAll_len (ns := askedOf s) (g := ({ g with nb := g.G.length } : GH))
    have h2 := devG_len (ks := askAll s.beats s.ks s.asks) (took := s.took) (wanted := (wantedOf s.prog s.S).isSome) (ms := s.S.marks) (ws := s.ws) (when := s.beats) (g := s.wake g)
    have h3 : ∀ (g : GH) (r : Row), (effG g r).G.length ≤ g.G.length + 1 ∧ (effG g r).nb = g.nb := fun g r => by
      cases r <;> first | exact ⟨Nat.le_succ _, rfl⟩ | exact GH.start_len
    have h4 : ∀ g : GH, (mstepG s.prog s.S s.dm.2.1 g).G.length ≤ g.G.length + 1 ∧ (mstepG s.prog s.S s.dm.2.1 g).nb = g.nb := fun g => by
      unfold mstepG
      cases s.prog[s.S.row.toNat]? with
      | none => exact ⟨Nat.le_succ _, rfl⟩
      | some r =>
        cases hw : r.word s.S.spent s.S.cells with
        | none =>
          simp only [hw]
          split
          · exact h3 g r
          · exact ⟨Nat.le_succ _, rfl⟩
        | some z =>
          simp only [hw]
          split
          · exact ⟨Nat.le_succ _, rfl⟩
          · split
            · exact h3 g r
            · exact ⟨Nat.le_succ _, rfl⟩
    have h5 := h4 (s.gmove g)
    have e1 : (s.wake g) = ({ g with nb := g.G.length } : GH).startAll (askedOf s) := rfl
    have e2 : (s.gmove g) = devG (askAll s.beats s.ks s.asks) s.took (wantedOf s.prog s.S).isSome s.S.marks s.ws s.beats (s.wake g) := rfl
    have e3 : (({ g with nb := g.G.length } : GH)).G.length = g.G.length := rfl
    have e4 : (({ g with nb := g.G.length } : GH)).nb = g.G.length := rfl
    rw [← e1] at h1
    rw [← e2] at h2
    rw [e3, e4] at h1
    show (mstepG s.prog s.S s.dm.2.1 (s.gmove g)).nb = _ ∧ (mstepG s.prog s.S s.dm.2.1 (s.gmove g)).G.length ≤ _
    omega
  · exact .inr (by omega)
section
variable {P : Program} {w : World} {K : PySem.W.Frag} {mg : Str → Option Value} {base : Heap} {H H' : Hp}
def sp_Watch_note_get (K : PySem.W.Frag) : Sp := fun vs H Q _ => ∃ (wt dw : Addr) (k : Wa) (ps : List Addr) (wp : WP) (row when ad : Int) (last : Bool), vs = [.ref wt, .int row, .int when, .int ad, .bl last] ∧ H wt = some (.ins (cWatch K) dw (waF k)) ∧ PairsAt H k.pairs ps wp.pr ∧ wp.pr.length < 1000 ∧ FgAt H k.first_get wp.fg ∧ (last = true → wp.fg ≠ none) ∧
  ∀ H' fg' ps', H' wt = some (.ins (cWatch K) dw (waF { k with first_get := fg' })) → PairsAt H' k.pairs ps' (wp.note row when ad last).pr → FgAt H' fg' (wp.note row when ad last).fg → Kept [wt, k.pairs] H H' → (∀ b, H' b = none → H b = none) → Q .non H'
theorem ok_Watch_note_get (T : T w K mg) : FnR P w K mg base CX0 1 (He.ma K (He.ga K "Watch") "note_get") (sp_Watch_note_get K) := by
  obtain ⟨fd, F⟩ := T.f_Watch_note_get
  refine F.r sc_Watch_note_get (fun _ _ _ _ _ _ us hl => match us, hl with | [_, _, _, _, _], _ => rfl) (fun vs H Q E h => ?_) (fun cdv A outer s0 H vs Q E hr h => ?_)
  · obtain ⟨_, _, _, _, _, _, _, _, _, rfl, _⟩ := h
    rfl
  · obtain ⟨wt, dw, k, ps, wp, row, when, ad, last, rfl, hw, PP, hl, FG, hfg, q⟩ := h
    have hp := PP.lst
    refine ⟨_, (pss_one (ps_if (pt_val (pv 4))
  (pss_one (ps_expr (pe_bm PySem.F.plainAttrs_list PySem.F.slot_list_append PySem.F.type_list_append mt_append (pe_fld (pv 0) rfl) (pa_cons (pe_tup (pa_cons (pv 1) (pa_cons (pe_fld (pv 0) rfl) (pa_cons (pe_tup (pa_cons (pv 2) (pa_cons (pv 3) pa_nil))) pa_nil)))) pa_nil))))
  (pss_one (ps_fld (pv 0) (pe_tup (pa_cons (pv 2) (pa_cons (pv 3) pa_nil))) rfl)))), ?_⟩
    have wtp : wt ≠ k.pairs := ins_ne_lst hw hp
    cases last with
    | true =>
      refine ⟨_, rfl, _, rfl, iteT ?_⟩
      refine ⟨_, rfl, _, _, _, _, _, rfl, hw, T.cl_Watch, T.n_Watch_pairs, wa_pairs _, ?_⟩
      refine ⟨.inl ⟨rfl, _, SqL.of hp⟩, ?_⟩
      refine ⟨_, rfl, ?_⟩
      refine ⟨_, rfl, _, _, _, _, _, rfl, hw, T.cl_Watch, T.n_Watch_first_get, wa_first_get _, ?_⟩
      refine ⟨_, rfl, _, rfl, by show 2 ≤ sizeLine; decide, fun t1 n1 => ?_⟩
      have s1 : Same H (upd H t1 (.tup [.int when, .int ad])) := Same.new (Same.refl _) n1
      have h1 : upd H t1 (.tup [.int when, .int ad]) t1 = some (.tup [.int when, .int ad]) := upd_same
      generalize upd H t1 (.tup [.int when, .int ad]) = H1 at s1 h1
      refine ⟨by show 3 ≤ sizeLine; decide, fun t2 n2 => ?_⟩
      have s2 : Same H1 (upd H1 t2 (.tup [.int row, oA k.first_get, .ref t1])) := Same.new (Same.refl _) n2
      have h2 : upd H1 t2 (.tup [.int row, oA k.first_get, .ref t1]) t2 = some (.tup [.int row, oA k.first_get, .ref t1]) := upd_same
      generalize upd H1 t2 (.tup [.int row, oA k.first_get, .ref t1]) = H2 at s2 h2
      have s12 := s1.trans s2
      refine ⟨_, _, _, rfl, rfl, s12 _ _ hp, by rw [List.length_map, PP.len]; exact Nat.lt_of_lt_of_le hl (by decide), ?_⟩
      obtain ⟨pr0, fg0⟩ := wp
      cases fg0 with
      | none => exact absurd rfl (hfg rfl)
      | some x =>
        obtain ⟨t0, e0, ht0⟩ := FG
        rw [e0] at h2
        have em : ps.map V.ref ++ [.ref t2] = (ps ++ [t2]).map V.ref := by simp
        rw [em]
        refine q _ k.first_get (ps ++ [t2]) ?_ ((PP.same s12).push (y := (row, x, (when, ad))) h2 (s12 _ _ ht0) (s2 _ _ h1)) ⟨t0, e0, ?_⟩ ((Kept.same s12).put (by simp)) (fun b hb => Same.free s12 (upd_none hb))
        · rw [upd_ne wtp]
          exact s12 _ _ hw
        · rw [upd_ne (ne_of (s12 _ _ ht0) (s12 _ _ hp) (by intro z; cases z))]
          exact s12 _ _ ht0
    | false =>
      refine ⟨_, rfl, _, rfl, iteF ?_⟩
      refine ⟨_, rfl, _, rfl, by show 2 ≤ sizeLine; decide, fun t1 n1 => ?_⟩
      have s1 : Same H (upd H t1 (.tup [.int when, .int ad])) := Same.new (Same.refl _) n1
      have h1 : upd H t1 (.tup [.int when, .int ad]) t1 = some (.tup [.int when, .int ad]) := upd_same
      generalize upd H t1 (.tup [.int when, .int ad]) = H1 at s1 h1
      refine stf (s1 _ _ hw) T.cl_Watch T.n_Watch_first_get (wa_len _) (wa_put_first_getS _ _) ?_
      have tk : Tk H1 (upd H1 wt (.ins (cWatch K) dw (waF { k with first_get := some t1 }))) := fun b vs hb => by
        rw [upd_ne (ne_of hb (s1 _ _ hw) (by intro z; cases z))]
        exact hb
      refine q _ (some t1) ps upd_same ((PP.same s1).keep tk ?_) ⟨t1, rfl, tk _ _ h1⟩ ((Kept.same s1).put (by simp)) (fun b hb => Same.free s1 (upd_none hb))
      rw [upd_ne (Ne.symm wtp)]
      exact s1 _ _ hp
end
end SB

set_option Elab.async false
set_option linter.all false
set_option maxRecDepth 100000
set_option maxHeartbeats 2000000
namespace SB
open PySem L2
theorem in_wordless {m : MT} : ([.str "waits", .str "ends"] : List PyData).any (fun z => PyData.eqv z (dM m)) = (match m with | .waits => true | .ends => true | _ => false) := by
  cases m with
  | word z a v => rfl
  | waits => decide +kernel
  | ends => decide +kernel
  | goes => decide +kernel
theorem at_0' {x : V} {xs : List V} : atI (x :: xs) 0 = some x := by
  unfold atI ixN
  simp
theorem seq_s {a b : TS} {D : Ends} {σ : L2.St} {H : Hp} (h : a { D with nx := b D } σ H) : tSeq a b D σ H := h
theorem viaIfS {tt : TT} {A B : TS} {D0 : Ends} {σ : L2.St} {H : Hp} (J : Hp → Prop) (h : ∀ D : Ends, (∀ H', J H' → D.nx σ H') → tIfS tt A B D σ H) (rest : ∀ H', J H' → D0.nx σ H') : tIfS tt A B D0 σ H := h D0 rest
theorem Row.nm_pair {r : Row} (h : r.nm = "pair") : ∃ a b, r = .pair a b := by
  cases r <;> first | exact ⟨_, _, rfl⟩ | exact absurd h (of_decide_eq_false (by kernel_rfl))
theorem row_there {s : HS} (h1 : s.ent.2 ≠ .waits) (h2 : s.ent.2 ≠ .ends) : ∃ r, s.prog[s.S.row.toNat]? = some r ∧ ((∃ a b, r = .pair a b) → ∃ z a v, s.ent.2 = .word z a v) := by
  have e : s.ent.2 = (mstep s.prog s.S s.dm.1 s.dm.2.1 s.dm.2.2.1).2.2.2 := rfl
  rw [e] at h1 h2 ⊢
  unfold mstep at h1 h2 ⊢
  cases hr : s.prog[s.S.row.toNat]? with
  | none => rw [hr] at h2; exact absurd rfl h2
  | some r =>
    refine ⟨r, rfl, fun ⟨a, b, hp⟩ => ?_⟩
    subst hp
    rw [hr] at h1
    have ew : (Row.pair a b).word s.S.spent s.S.cells = some (("get" : Str), b + s.S.spent, a + s.S.spent) := rfl
    simp only [ew] at h1 ⊢
    split at h1
    · exact absurd rfl h1
    · rename_i hn
      rw [if_neg hn]
      exact ⟨_, _, _, rfl⟩
section
variable {P : Program} {w : World} {K : PySem.W.Frag} {mg : Str → Option Value} {base : Heap} {H H' : Hp}
theorem WatchAt.inF {b : WaA} {s : HS} {g : GH} {n : Nat} {dnf : Int → Option Int} {wp : WP} (A : WatchAt K H b s g n dnf wp) : ∀ x ∈ b.foot, ∃ u, H x = some u ∧ notTup u = true := fun x hx => by
  rcases List.mem_append.mp hx with hx | hx
  · unfold WaA.own at hx
    simp only [List.mem_cons] at hx
    obtain ⟨kv, h1, _⟩ := A.dn
    obtain ⟨kv2, h2, _⟩ := A.ob
    obtain ⟨xs, h3⟩ := A.pr
    rcases hx with rfl | rfl | rfl | rfl | rfl | hx
    · exact ⟨_, A.wo, rfl⟩
    · exact ⟨_, h1, rfl⟩
    · exact ⟨_, h2, rfl⟩
    · exact ⟨_, h3.lst, rfl⟩
    · exact ⟨_, A.gl, rfl⟩
    · cases hx
  · exact A.fl.inF x hx
theorem FlAt.own {f : FA} {s : HS} {g : GH} (L : FlAt K H f s g) {o : List Addr} (k : Kept o H H') (h1 : ∀ x ∈ o, x ∉ f.foot) (h2 : ∀ x ∈ o, x ≠ f.al) (hn : ∀ x ∈ o, ∃ u, H x = some u ∧ notTup u = true) : FlAt K H' f s g :=
  L.stay k (fun b hb z => h1 b z hb) (fun z => h2 _ z rfl) hn
def onV (ks : List Wk) : List V := (onFrom 0 ks).map fun p => V.int (p.1 : Int)
def ObN (H H' : Hp) (b b' : WaA) (s : HS) (dnf : Int → Option Int) : Prop := b'.ob = b.ob ∧ ∀ kvs, H b.ob = some (.dK kvs) →
  ((s.doneB = true ∧ dnf s.S.row = none) ∧ ∃ D, H' b.ob = some (.dK (putK kvs (.inl s.S.row) (.ref D))) ∧ D ∉ b'.foot ∧ H' D = some (.lst (onV s.next.ks))) ∨ (¬ (s.doneB = true ∧ dnf s.S.row = none) ∧ H' b.ob = some (.dK kvs))
def sp_Watch_step (K : PySem.W.Frag) : Sp := fun vs H Q _ => ∃ (b : WaA) (s : HS) (g : GH) (n : Nat) (dnf : Int → Option Int) (wp : WP), vs = [.ref b.wt] ∧ WatchAt K H b s g n dnf wp ∧ HOk s ∧ n < 900 ∧
  ∀ H' b', b'.wt = b.wt → b'.dn = b.dn → WatchAt K H' b' s.next (s.gnext g) (n + 1) (dnext s dnf) (wpnext s wp) → Step b.foot H b'.foot H' → ObN H H' b b' s dnf → Q .non H'
theorem ok_Watch_step (T : T w K mg) : FnR P w K mg base CX0 7 (He.ma K (He.ga K "Watch") "step") (sp_Watch_step K) := by
  have F_Floor_pass_beat : FnR P w K mg base CX0 6 _ _ := ok_Floor_pass_beat T
  have F_Watch_note_get : FnR P w K mg base CX0 1 _ _ := ok_Watch_note_get T
  have F_Device_numbers_on : FnR P w K mg base CX0 2 _ _ := ok_Device_numbers_on T
  obtain ⟨fd, F⟩ := T.f_Watch_step
  refine F.r sc_Watch_step (fun _ _ _ _ _ _ us hl => match us, hl with | [_], _ => rfl) (fun vs H Q E h => ?_) (fun cdv A outer s0 H vs Q E hr h => ?_)
  · obtain ⟨_, _, _, _, _, _, rfl, _⟩ := h
    rfl
  · obtain ⟨b, s, g, n, dnf, wp, rfl, W, O, n900, q⟩ := h
    have hu := hr.units
    have hu1 : (A.deeper (PyProof.Rows.envOfC "Watch.step" (defScope s_Watch_step) s0.heap.objs.size (He.ma K (He.ga K "Watch") "step") cdv)).units + 1 < cLine := by omega
    have hu65 : (A.deeper (PyProof.Rows.envOfC "Watch.step" (defScope s_Watch_step) s0.heap.objs.size (He.ma K (He.ga K "Watch") "step") cdv)).units + 65 < cLine := by have := hr.un; omega
    refine ⟨_, (pss_cons (ps_set (i := 1) sc_Watch_step.nd rfl (Or.inl rfl) (pe_fld (pv 0) rfl))
  (pss_cons (ps_par rfl sc_Watch_step.nd (i := 2) (j := 3) rfl rfl (by decide) rfl rfl (pa_cons (pe_fld (pv 1) rfl) (pa_cons (pe_fld (pe_fld (pv 1) rfl) rfl) pa_nil)) rfl)
  (pss_cons (ps_asg (pe_mth0R (pv 1) T.cl_Floor T.m_Floor_pass_beat F_Floor_pass_beat (hr.mono (by decide))) (pg_tup rfl (pgs_cons (pg_name (i := 4) sc_Watch_step.nd rfl (Or.inl rfl)) (pgs_cons (pg_name (i := 5) sc_Watch_step.nd rfl (Or.inl rfl)) pgs_nil))))
  (pss_cons (ps_expr (pe_bm PySem.F.plainAttrs_list PySem.F.slot_list_extend PySem.F.type_list_extend mt_extend (pe_fld (pv 0) rfl) (pa_cons (pe_fld (pe_fld (pv 1) rfl) rfl) pa_nil)))
  (pss_cons (ps_if (pt_cmpR (op_inT hu65) (pv 5) (pe_tup (pa_cons pe_str (pa_cons pe_str pa_nil))) rfl)
  (pss_one ps_retN)
  pss_nil)
  (pss_cons (ps_set (i := 6) sc_Watch_step.nd rfl (Or.inl rfl) (pe_cmpR op_eq (pe_fld (pe_fld (pv 1) rfl) rfl) pe_int (nomark _)))
  (pss_cons (ps_if (pt_cmpR op_eq (pe_ix ix_tup (pe_ix ix_tup (pe_fld (pe_fld (pv 1) rfl) rfl) (pv 3) (fun _ _ => rfl)) pe_int (fun _ _ => rfl)) pe_str (nomark _))
  (pss_one (ps_expr (pe_mthR (pv 0) T.cl_Watch T.m_Watch_note_get F_Watch_note_get (hr.mono (by decide)) (pa_cons (pv 3) (pa_cons (pv 2) (pa_cons (pe_ix ix_tup (pv 5) pe_int (fun _ _ => rfl)) (pa_cons (pv 6) pa_nil)))))))
  pss_nil)
  (pss_one (ps_if (PW.pt (pw_and (pt_val (pv 6)) (pw_and1 (pt_cmp (pc_dnotin hu1 (pv 3) (pe_fld (pv 0) rfl))))))
  (pss_cons (ps_asg (pv 2) (pg_sub (pe_fld (pv 0) rfl) (pv 3) (set_dict hu1)))
  (pss_one (ps_asg (pe_mth0R (pe_fld (pv 1) rfl) T.cl_Device T.m_Device_numbers_on F_Device_numbers_on (hr.mono (by decide))) (pg_sub (pe_fld (pv 0) rfl) (pv 3) (set_dict hu1)))))
  pss_nil))))))))), ?_⟩
    obtain ⟨kvs, hdn, ldn, vdn⟩ := W.dn
    obtain ⟨kvs2, hob, lob⟩ := W.ob
    obtain ⟨xs, PP⟩ := W.pr
    have hpr := PP.lst
    have lpr := W.prl
    have nd := W.nd
    simp only [WaA.own, List.nodup_cons, List.mem_cons, List.not_mem_nil, or_false, not_or, not_false_eq_true, List.nodup_nil, and_true] at nd
    obtain ⟨⟨w1, w2, w3, w4⟩, ⟨d2, d3, d4⟩, ⟨o3, o4⟩, p4⟩ := nd
    refine ⟨_, rfl, _, _, _, _, _, rfl, W.wo, T.cl_Watch, T.n_Watch_floor, wa_floor _, ?_⟩ -- floor = self.floor
    refine ⟨_, rfl, _, _, _, _, _, rfl, W.fl.ob, T.cl_Floor, T.n_Floor_beats, fl_beats _, ?_⟩
    refine ⟨_, rfl, _, _, _, _, _, rfl, W.fl.ob, T.cl_Floor, T.n_Floor_machine, fl_machine _, ?_⟩
    refine ⟨_, _, _, _, _, rfl, W.fl.mc.ob, T.cl_Machine, T.n_Machine_row, mc_row _, ?_⟩
    refine ⟨_, _, rfl, ?_⟩ -- when, row
    refine ⟨_, rfl, _, _, _, rfl, W.fl.ob, fl_no_pass_beat _, ?_⟩
    refine ⟨b.f, s, g, rfl, W.fl, O, fun H1 f1 v le1 F1 st1 tb => ?_⟩ -- floor.pass_beat()
    obtain ⟨p, v1, v2, rfl, Ee, np⟩ := tb.ent
    refine ⟨p, _, rfl, SqT.of Ee.tup, rfl, _, _, rfl, _, _, rfl, rfl, ?_⟩ -- moved, did
    have own1 : ∀ {x : Addr} {o : HO}, x ∈ b.own → H x = some o → H1 x = some o := fun hx h => st1.kp _ _ h (W.ap _ hx)
    have ap1 : ∀ x ∈ b.own, x ∉ f1.foot := fun x hx => by
      obtain ⟨u, hu, _⟩ := W.inF x (List.mem_append.mpr (.inl hx))
      exact st1.apart hu (W.ap x hx)
    have nal1 : ∀ x ∈ b.own, x ≠ f1.al := fun x hx => by rw [le1.al]; exact W.nal x hx
    have m0 : b.wt ∈ b.own := by simp [WaA.own]
    have m1 : b.dn ∈ b.own := by simp [WaA.own]
    have m2 : b.ob ∈ b.own := by simp [WaA.own]
    have m3 : b.pr ∈ b.own := by simp [WaA.own]
    have m4 : b.gl ∈ b.own := by simp [WaA.own]
    have wo1 := own1 m0 W.wo
    have hdn1 := own1 m1 hdn
    have hob1 := own1 m2 hob
    have hpr1 := own1 m3 hpr
    have hgl1 := own1 m4 W.gl
    have gnb : (s.gnext g).nb = g.G.length ∧ (s.gnext g).G.length ≤ g.G.length + 8 + 1 + 1 := by
      rcases gnext_nb s g with h | h
      · exact h
      · have h8 : (askedOf s).length ≤ 8 := by
          unfold askedOf
          rw [List.length_map]
          exact Nat.le_trans (List.length_filter_le _ _) O.a8
        omega
    obtain ⟨rr, hrr⟩ := le1.d.gs
    have edrop : (b.f.da.gas.map fun x => V.ref x.g) ++ ((f1.da.gas.drop (s.gnext g).nb).map fun x => V.ref x.g) = f1.da.gas.map fun x => V.ref x.g := by
      have e1 : ∀ l : List GA, (l.map fun x => V.ref x.g) = (l.map (·.g)).map V.ref := fun l => by rw [List.map_map]; rfl
      rw [e1, e1, e1, List.map_drop, hrr, gnb.1, ← W.fl.dv.glen, List.drop_left' (by rw [List.length_map]), List.map_append]
    have glen1 : (s.gnext g).G.length ≤ 1001 * (n + 1) := by
      have := W.glen
      omega
    have gl1len : f1.da.gas.length ≤ 1001 * (n + 1) := by rw [F1.dv.glen]; exact glen1
    refine ⟨_, rfl, _, _, _, _, _, rfl, wo1, T.cl_Watch, T.n_Watch_goings, wa_goings _, ?_⟩
    refine ⟨.inl ⟨rfl, _, SqL.of hgl1⟩, ?_⟩
    refine ⟨_, rfl, _, _, _, _, _, rfl, by rw [← le1.h]; exact F1.ob, T.cl_Floor, T.n_Floor_device, fl_device _, ?_⟩
    refine ⟨_, _, _, _, _, rfl, F1.dv.ob, T.cl_Device, T.n_Device_begun, dv_begun _, ?_⟩
    refine ⟨_, _, _, _, rfl, rfl, hgl1, F1.dv.bg, ?_, ?_⟩ -- goings.extend(..)
    · have := congrArg List.length edrop
      rw [List.length_append] at this
      rw [this, List.length_map]
      exact Nat.le_trans gl1len (Nat.le_trans (Nat.mul_le_mul_left _ (show n + 1 ≤ 1000 by omega)) (by decide))
    rw [edrop]
    generalize eH2 : upd H1 b.gl _ = H2
    have k2 : Kept [b.gl] H1 H2 := by rw [← eH2]; exact (Kept.refl _ _).put (by simp)
    have fr2 : ∀ x, H2 x = none → H1 x = none := fun x hx => by rw [← eH2] at hx; exact upd_none hx
    have in1 : ∀ x ∈ [b.gl], ∃ u, H1 x = some u ∧ notTup u = true := fun x hx => by
      have e : x = b.gl := by simpa using hx
      rw [e]
      exact ⟨_, hgl1, rfl⟩
    have F2 : FlAt K H2 f1 s.next (s.gnext g) := F1.own k2 (fun x hx => by
      have e : x = b.gl := by simpa using hx
      rw [e]
      exact ap1 _ m4) (fun x hx => by
      have e : x = b.gl := by simpa using hx
      rw [e]
      exact nal1 _ m4) in1
    have wo2 := k2 _ _ wo1 (by simpa using w4)
    have hdn2 := k2 _ _ hdn1 (by simpa using d4)
    have hob2 := k2 _ _ hob1 (by simpa using o4)
    have hpr2 := k2 _ _ hpr1 (by simpa using p4)
    have hgl2 : H2 b.gl = some (.lst (f1.da.gas.map fun x => V.ref x.g)) := by rw [← eH2]; exact upd_same
    have Ee2 := Ee.keep (Tk.of k2 in1)
    have tk1 : Tk H H1 := Tk.of st1.kp W.fl.inF
    have PP2 : PairsAt H2 b.pr xs wp.pr := PP.keep (tk1.trans (Tk.of k2 in1)) hpr2
    have FG2 : FgAt H2 b.fg wp.fg := W.fgA.keep (tk1.trans (Tk.of k2 in1))
    have st2 : Step b.foot H (b.own ++ f1.foot) H2 := by
      have s1 : Step b.foot H (b.own ++ f1.foot) H1 := (st1.more b.own).all
      refine s1.trans (Step.of (k2.mono (fun x hx => ?_)) fr2)
      have e : x = b.gl := by simpa using hx
      rw [e]
      exact List.mem_append.mpr (.inl m4)
    clear eH2
    refine ⟨_, rfl, by show 2 ≤ sizeLine; decide, fun t nt => ?_⟩
    have s3 : Same H2 (upd H2 t (.tup [.str "waits", .str "ends"])) := Same.new (Same.refl _) nt
    have ht : upd H2 t (.tup [.str "waits", .str "ends"]) t = some (.tup [.str "waits", .str "ends"]) := upd_same
    generalize upd H2 t (.tup [.str "waits", .str "ends"]) = H3 at s3 ht
    have Ee3 := Ee2.keep (Tk.same s3)
    have F3 := F2.same s3
    have wo3 := s3 _ _ wo2
    have hdn3 := s3 _ _ hdn2
    have hob3 := s3 _ _ hob2
    have hpr3 := s3 _ _ hpr2
    have PP3 := PP2.same s3
    have FG3 := FG2.keep (Tk.same s3)
    have fgn := W.fgi.next
    have hgl3 := s3 _ _ hgl2
    have st3 : Step b.foot H (b.own ++ f1.foot) H3 := st2.trans (Step.same s3)
    have eok := ent_ok s
    have shD : SeqAt.shaped (dM s.ent.2) = true := by
      unfold SeqAt.shaped
      rw [dM_lay eok.2]
      have := dM_deep s.ent.2
      simp only [Bool.true_and, decide_eq_true_eq]
      omega
    refine ⟨dM s.ent.2, [.str "waits", .str "ends"], Ee3.m.dp, .tup (SqT.of ht) (.cons (.str _) (.cons (.str _) .nil)), shD, by decide +kernel, _, rfl, ?_⟩
    rw [in_wordless]
    have wo3' : H3 b.wt = some (.ins (cWatch K) b.dw (waF ⟨f1.h, b.dn, b.ob, b.pr, b.fg, b.gl⟩)) := by rw [le1.h]; exact wo3
    /- a beat in which no row is done -/
    have none3 : s.doneB = false → dnext s dnf = dnf := fun h => by
      funext r
      unfold dnext
      rw [h, if_neg (fun z => by cases z.1)]
    /- what there is at last -/
    have fin : ∀ (H' : Hp) (fg : Option Addr), H' b.wt = some (.ins (cWatch K) b.dw (waF ⟨f1.h, b.dn, b.ob, b.pr, fg, b.gl⟩)) → FlAt K H' f1 s.next (s.gnext g) → (∃ kvs : List (Key × V), H' b.dn = some (.dK kvs) ∧ kvs.length ≤ n + 1 ∧ ∀ r : Int, valV kvs (.inl r) = (dnext s dnf r).map V.int) → (∃ kvs : List (Key × V), H' b.ob = some (.dK kvs) ∧ kvs.length ≤ n + 1) →
        (∃ ps, PairsAt H' b.pr ps (wpnext s wp).pr) → (wpnext s wp).pr.length ≤ n + 1 → FgAt H' fg (wpnext s wp).fg → H' b.gl = some (.lst (f1.da.gas.map fun x => V.ref x.g)) → Step b.foot H (b.own ++ f1.foot) H' → (((s.doneB = true ∧ dnf s.S.row = none) ∧ ∃ D, H' b.ob = some (.dK (putK kvs2 (.inl s.S.row) (.ref D))) ∧ D ∉ b.own ++ f1.foot ∧ H' D = some (.lst (onV s.next.ks))) ∨ (¬ (s.doneB = true ∧ dnf s.S.row = none) ∧ H' b.ob = some (.dK kvs2))) → Q .non H' := fun H' fg a1 a2 a3 a4 a5 a51 a52 a6 a7 a8 =>
      q H' ⟨b.wt, b.dw, b.dn, b.ob, b.pr, b.gl, fg, f1⟩ rfl rfl ⟨a1, a2, a3, a4, a5, a6, glen1, ap1, nal1, W.nd, a51, a52, fgn⟩ a7 ⟨rfl, fun kvs' e => by
        rw [hob] at e
        cases e
        exact a8⟩
    have over : ∀ {A B : Prop}, s.ent.2 = .waits ∨ s.ent.2 = .ends → Q .non H3 := fun {A B} hm => by
      have hd : s.doneB = false := by
        unfold HS.doneB
        rcases hm with h | h <;> rw [h]
      refine fin H3 b.fg wo3' F3 ⟨kvs, hdn3, by omega, by rw [none3 hd]; exact vdn⟩ ⟨kvs2, hob3, by omega⟩ ⟨xs, by rw [wp_keep hm]; exact PP3⟩ (by rw [wp_keep hm]; omega) (by rw [wp_keep hm]; exact FG3) hgl3 st3 (.inr ⟨fun z => (by rw [hd] at z; cases z.1), hob3⟩)
    by_cases hw1 : s.ent.2 = .waits
    · rw [hw1]
      exact iteT (over (A := True) (B := True) (.inl hw1))
    by_cases hw2 : s.ent.2 = .ends
    · rw [hw2]
      exact iteT (over (A := True) (B := True) (.inr hw2))
    have hno : (match s.ent.2 with | .waits => true | .ends => true | _ => false) = false := by
      cases h : s.ent.2 with
      | waits => exact absurd h hw1
      | ends => exact absurd h hw2
      | goes => rfl
      | word z a v => rfl
    have hdone : s.doneB = decide (s.next.S.spent = 0) := by
      unfold HS.doneB
      cases h : s.ent.2 with
      | waits => exact absurd h hw1
      | ends => exact absurd h hw2
      | goes => rfl
      | word z a v => rfl
    rw [hno]
    refine iteF ?_
    obtain ⟨r, hrow, hpair⟩ := row_there hw1 hw2
    refine ⟨_, rfl, _, _, _, _, _, rfl, by rw [← le1.h]; exact F3.ob, T.cl_Floor, T.n_Floor_machine, fl_machine _, ?_⟩
    refine ⟨_, _, _, _, _, rfl, F3.mc.ob, T.cl_Machine, T.n_Machine_spent, mc_spent _, rfl, ?_⟩ -- last
    dsimp only [gName]
    rw [dec_int']
    refine seq_s ?_
    have row0 : 0 ≤ s.S.row := O.m.row0
    refine viaIfS (fun H4 => ∃ fg xs', H4 b.wt = some (.ins (cWatch K) b.dw (waF ⟨f1.h, b.dn, b.ob, b.pr, fg, b.gl⟩)) ∧ FlAt K H4 f1 s.next (s.gnext g) ∧ H4 b.dn = some (.dK kvs) ∧ H4 b.ob = some (.dK kvs2) ∧ PairsAt H4 b.pr xs' (wpnext s wp).pr ∧ (wpnext s wp).pr.length ≤ n + 1 ∧ FgAt H4 fg (wpnext s wp).fg ∧ H4 b.gl = some (.lst (f1.da.gas.map fun x => V.ref x.g)) ∧ Step b.foot H (b.own ++ f1.foot) H4) (fun D nx => ?_) ?_
    · obtain ⟨t', e1, hrt⟩ := F3.mc.pr.get hrow
      refine ⟨_, rfl, _, _, _, _, _, rfl, by rw [← le1.h]; exact F3.ob, T.cl_Floor, T.n_Floor_machine, fl_machine _, ?_⟩
      refine ⟨_, _, _, _, _, rfl, F3.mc.ob, T.cl_Machine, T.n_Machine_program, mc_program _, ?_⟩
      refine ⟨_, rfl, _, _, _, _, rfl, rfl, F3.mc.pr.tup, at_rf row0 e1, ?_⟩
      refine ⟨_, _, _, .str r.nm, rfl, rfl, hrt, by rw [Row.vs_eq]; exact at_0', rfl, _, rfl, ?_⟩
      rw [dec_str]
      by_cases hpz : r.nm = "pair"
      · rw [decide_eq_true hpz]
        refine iteT ?_
        obtain ⟨z, ad, v, hent⟩ := hpair (Row.nm_pair hpz)
        have m3' := Ee3.m
        rw [hent] at m3'
        obtain ⟨q2, e2, hq2⟩ := m3'
        subst e2
        refine ⟨_, rfl, _, _, _, rfl, wo3', wa_no_note_get _, ?_⟩
        refine ⟨_, rfl, _, rfl, _, rfl, _, _, _, _, rfl, rfl, SqT.of hq2, rfl, _, rfl, ?_⟩
        obtain ⟨pa1, pa2, hpp⟩ := Row.nm_pair hpz
        rw [hpp] at hrow
        have ewp := wp_pair (wp := wp) hrow hent
        refine ⟨b.wt, b.dw, _, xs, wp, _, _, ad, _, rfl, wo3', PP3, by omega, FG3, fun hlast => ?_, fun H4 fg' xs' a1 a2 a3 k4 fr4 => ?_⟩
        · rcases pair_ms hrow with ⟨_, z1, _⟩ | ⟨_, _, z2, _⟩
          · exact absurd z1 hw1
          · have h0 : s.next.S.spent = 0 := by simpa using hlast
            rw [z2] at h0
            have sp0 := O.m.sp0
            refine W.fgi _ _ hrow ?_
            by_cases q1 : s.S.spent + 1 = 2
            · omega
            · rw [if_neg q1] at h0
              omega
        rw [← ewp] at a2 a3
        have in4 : ∀ x ∈ [b.wt, b.pr], ∃ u, H3 x = some u ∧ notTup u = true := fun x hx => by
          have e : x = b.wt ∨ x = b.pr := by simpa using hx
          rcases e with rfl | rfl
          · exact ⟨_, wo3', rfl⟩
          · exact ⟨_, hpr3, rfl⟩
        have mem4 : ∀ x ∈ [b.wt, b.pr], x ∈ b.own := fun x hx => by
          have e : x = b.wt ∨ x = b.pr := by simpa using hx
          rcases e with rfl | rfl
          · exact m0
          · exact m3
        refine nx _ ⟨fg', xs', a1, F3.own k4 (fun x hx => ap1 x (mem4 x hx)) (fun x hx => nal1 x (mem4 x hx)) in4, k4 _ _ hdn3 (by simp [Ne.symm w1, d3]), k4 _ _ hob3 (by simp [Ne.symm w2, o3]), a2, by rw [ewp]; unfold WP.note; split <;> simp <;> omega, a3, k4 _ _ hgl3 (by simp [Ne.symm w4, Ne.symm p4]), st3.trans (Step.of (k4.mono (fun x hx => List.mem_append.mpr (.inl (mem4 x hx)))) fr4)⟩
      · rw [decide_eq_false hpz]
        have ewp := wp_other (wp := wp) hrow (fun a c z => hpz (by rw [z]; rfl))
        exact iteF (nx _ ⟨b.fg, xs, wo3', F3, hdn3, hob3, by rw [ewp]; exact PP3, by rw [ewp]; omega, by rw [ewp]; exact FG3, hgl3, st3⟩)
    rintro H4 ⟨fg, xs', wo4, F4, hdn4, hob4, PP4, lpr4, FG4, hgl4, st4⟩
    have hpr4 := PP4.lst
    refine ⟨_, rfl, _, rfl, ?_⟩
    by_cases hs : s.next.S.spent = 0
    · rw [decide_eq_true hs]
      rw [decide_eq_true hs] at hdone
      refine iteT ?_
      refine ⟨_, rfl, _, rfl, _, _, _, _, _, rfl, wo4, T.cl_Watch, T.n_Watch_dones, wa_dones _, b.dn, _, rfl, DGet.k (k := .inl s.S.row) hdn4, _, rfl, ?_⟩
      rw [vdn]
      cases hd : dnf s.S.row with
      | some x =>
        refine iteF ?_
        have en : dnext s dnf = dnf := by
          funext r'
          unfold dnext
          by_cases hr' : s.S.row = r'
          · subst hr'
            rw [if_pos ⟨hdone, rfl⟩, hd]
          · rw [if_neg (fun z => hr' z.2)]
        exact fin H4 fg wo4 F4 ⟨kvs, hdn4, by omega, by rw [en]; exact vdn⟩ ⟨kvs2, hob4, by omega⟩ ⟨xs', PP4⟩ lpr4 FG4 hgl4 st4 (.inr ⟨fun z => (by rw [hd] at z; cases z.2), hob4⟩)
      | none =>
        refine iteT ?_
        refine ⟨_, rfl, _, rfl, _, _, _, _, _, rfl, wo4, T.cl_Watch, T.n_Watch_dones, wa_dones _, _, rfl, b.dn, _, rfl, DPut.k (k := .inl s.S.row) hdn4 (Nat.lt_of_le_of_lt (show kvs.length ≤ 1000 by omega) (by decide)), ?_⟩
        generalize eH5 : upd H4 b.dn _ = H5
        have k5 : Kept [b.dn] H4 H5 := by rw [← eH5]; exact (Kept.refl _ _).put (by simp)
        have fr5 : ∀ x, H5 x = none → H4 x = none := fun x hx => by rw [← eH5] at hx; exact upd_none hx
        have in5 : ∀ x ∈ [b.dn], ∃ u, H4 x = some u ∧ notTup u = true := fun x hx => by
          have e : x = b.dn := by simpa using hx
          rw [e]
          exact ⟨_, hdn4, rfl⟩
        have F5 : FlAt K H5 f1 s.next (s.gnext g) := F4.own k5 (fun x hx => by
          have e : x = b.dn := by simpa using hx
          rw [e]
          exact ap1 _ m1) (fun x hx => by
          have e : x = b.dn := by simpa using hx
          rw [e]
          exact nal1 _ m1) in5
        have wo5 := k5 _ _ wo4 (by simpa using w1)
        have hob5 := k5 _ _ hob4 (by simpa using Ne.symm d2)
        have hpr5 := k5 _ _ hpr4 (by simpa using Ne.symm d3)
        have hgl5 := k5 _ _ hgl4 (by simpa using Ne.symm d4)
        have hdn5 : H5 b.dn = some (.dK (putK kvs (.inl s.S.row) (.int s.beats))) := by rw [← eH5]; exact upd_same
        have st5 : Step b.foot H (b.own ++ f1.foot) H5 := st4.trans (Step.of (k5.mono (fun x hx => by
          have e : x = b.dn := by simpa using hx
          rw [e]
          exact List.mem_append.mpr (.inl m1))) fr5)
        clear eH5
        refine ⟨_, rfl, _, _, _, _, _, rfl, by rw [← le1.h]; exact F5.ob, T.cl_Floor, T.n_Floor_device, fl_device _, ?_⟩
        refine ⟨_, _, _, rfl, F5.dv.ob, dv_no_numbers_on _, ?_⟩
        refine ⟨f1.da, _, _, _, rfl, F5.dv, O.next.l6, fun H6 D nD hD s6 => ?_⟩ -- numbers_on()
        refine ⟨_, rfl, _, _, _, _, _, rfl, s6 _ _ wo5, T.cl_Watch, T.n_Watch_on_behind, wa_on_behind _, _, rfl, b.ob, _, rfl, DPut.k (k := .inl s.S.row) (s6 _ _ hob5) (Nat.lt_of_le_of_lt (show kvs2.length ≤ 1000 by omega) (by decide)), ?_⟩
        generalize eH7 : upd H6 b.ob _ = H7
        have k7 : Kept [b.ob] H6 H7 := by rw [← eH7]; exact (Kept.refl _ _).put (by simp)
        have fr7 : ∀ x, H7 x = none → H6 x = none := fun x hx => by rw [← eH7] at hx; exact upd_none hx
        have in7 : ∀ x ∈ [b.ob], ∃ u, H6 x = some u ∧ notTup u = true := fun x hx => by
          have e : x = b.ob := by simpa using hx
          rw [e]
          exact ⟨_, s6 _ _ hob5, rfl⟩
        have hob7 : ∃ kvs3 : List (Key × V), H7 b.ob = some (.dK kvs3) ∧ kvs3.length ≤ n + 1 := by
          refine ⟨_, by rw [← eH7]; exact upd_same, ?_⟩
          have := length_putK kvs2 (.inl s.S.row : Key) (.ref D)
          omega
        have hob7' : H7 b.ob = some (.dK (putK kvs2 (.inl s.S.row) (.ref D))) := by rw [← eH7]; exact upd_same
        have nDo : D ≠ b.ob := fun z => by
          rw [z] at nD
          rw [nD] at hob5
          cases hob5
        have F56 := F5.inF
        have nDf : D ∉ b.own ++ f1.foot := fun z => by
          rcases List.mem_append.mp z with z | z
          · have ex : ∃ u, H5 D = some u := by
              have hin : ∃ u, H4 D = some u := by
                have hz : D ∈ [b.wt, b.dn, b.ob, b.pr, b.gl] := z
                simp only [List.mem_cons, List.not_mem_nil, or_false] at hz
                rcases hz with rfl | rfl | rfl | rfl | rfl
                · exact ⟨_, wo4⟩
                · exact ⟨_, hdn4⟩
                · exact ⟨_, hob4⟩
                · exact ⟨_, hpr4⟩
                · exact ⟨_, hgl4⟩
              obtain ⟨u, hu⟩ := hin
              cases h5 : H5 D with
              | none => rw [fr5 _ h5] at hu; cases hu
              | some u' => exact ⟨u', rfl⟩
            obtain ⟨u, hu⟩ := ex
            rw [nD] at hu
            cases hu
          · obtain ⟨u, hu, _⟩ := F56 D z
            rw [nD] at hu
            cases hu
        have hD7 : H7 D = some (.lst (onV s.next.ks)) := k7 _ _ hD (by simpa using nDo)
        refine fin H7 fg (k7 _ _ (s6 _ _ wo5) (by simpa using w2)) ((F5.same s6).own k7 (fun x hx => by
          have e : x = b.ob := by simpa using hx
          rw [e]
          exact ap1 _ m2) (fun x hx => by
          have e : x = b.ob := by simpa using hx
          rw [e]
          exact nal1 _ m2) in7) ⟨_, k7 _ _ (s6 _ _ hdn5) (by simpa using d2), ?_, fun r' => ?_⟩ hob7 ⟨xs', (((PP4.keep (Tk.of k5 in5) hpr5).same s6).keep (Tk.of k7 in7) (k7 _ _ (s6 _ _ hpr5) (by simpa using Ne.symm o3)))⟩ lpr4 (((FG4.keep (Tk.of k5 in5)).keep (Tk.same s6)).keep (Tk.of k7 in7)) (k7 _ _ (s6 _ _ hgl5) (by simpa using Ne.symm o4)) (st5.trans ((Step.same s6).trans (Step.of (k7.mono (fun x hx => by
          have e : x = b.ob := by simpa using hx
          rw [e]
          exact List.mem_append.mpr (.inl m2))) fr7))) (.inl ⟨⟨hdone, hd⟩, D, hob7', nDf, hD7⟩)
        · have := length_putK kvs (.inl s.S.row : Key) (.int s.beats)
          omega
        · rw [valV_put]
          unfold dnext
          by_cases hr' : s.S.row = r'
          · subst hr'
            rw [if_pos rfl, if_pos ⟨hdone, rfl⟩, hd]
            rfl
          · rw [if_neg (fun z => hr' (by cases z; rfl)), if_neg (fun z => hr' z.2)]
            exact vdn r'
    · rw [decide_eq_false hs]
      rw [decide_eq_false hs] at hdone
      refine iteF (iteF ?_)
      exact fin H4 fg wo4 F4 ⟨kvs, hdn4, by omega, by rw [none3 hdone]; exact vdn⟩ ⟨kvs2, hob4, by omega⟩ ⟨xs', PP4⟩ lpr4 FG4 hgl4 st4 (.inr ⟨fun z => (by rw [hdone] at z; cases z.1), hob4⟩)
end
end SB

set_option Elab.async false
set_option linter.all false
set_option maxRecDepth 100000
set_option maxHeartbeats 2000000
namespace SB
open PySem L2
def dnN (s : HS) : Nat → Int → Option Int
  | 0 => fun _ => none
  | n + 1 => dnext (s.after n) (dnN s n)
theorem beats_aft (s : HS) : ∀ n, (s.after n).beats = s.beats + (n : Nat)
  | 0 => by show s.beats = s.beats + ((0 : Nat) : Int); omega
  | n + 1 => by
    show (s.after n).beats + 1 = _
    rw [beats_aft s n]
    omega
def ObAt (H : Hp) (b : WaA) (dnf : Int → Option Int) (on : Int → List V) : Prop := ∃ kvs, H b.ob = some (.dK kvs) ∧ ∀ r : Int, match dnf r with
  | none => valV kvs (.inl r) = none
  | some t => ∃ D, valV kvs (.inl r) = some (.ref D) ∧ D ∉ b.foot ∧ H D = some (.lst (on t))
def onT (s : HS) (t : Int) : List V := onV (s.after ((t - s.beats).toNat + 1)).ks
theorem onT_at (s : HS) (i : Nat) : onT s (s.after i).beats = onV (s.after i).next.ks := by
  unfold onT
  rw [beats_aft, show ((s.beats + (i : Nat)) - s.beats).toNat = i by omega]
  rfl
theorem ObAt.step {H H' : Hp} {b b' : WaA} {s : HS} {dnf : Int → Option Int} {on : Int → List V} (h : ObAt H b dnf on) (st : Step b.foot H b'.foot H') (n : ObN H H' b b' s dnf) (hb : on s.beats = onV s.next.ks) : ObAt H' b' (dnext s dnf) on := by
  obtain ⟨kvs, h1, h2⟩ := h
  obtain ⟨eo, n⟩ := n
  have keep : ∀ r t, dnf r = some t → ∃ D, valV kvs (.inl r) = some (.ref D) ∧ D ∉ b'.foot ∧ H' D = some (.lst (on t)) := fun r t e => by
    have := h2 r
    rw [e] at this
    obtain ⟨D, a1, a2, a3⟩ := this
    exact ⟨D, a1, st.apart a3 a2, st.kp _ _ a3 a2⟩
  rcases n kvs h1 with ⟨⟨c1, c2⟩, D, d1, d2, d3⟩ | ⟨c, d1⟩
  · refine ⟨_, by rw [eo]; exact d1, fun r => ?_⟩
    by_cases e : s.S.row = r
    · subst e
      have e1 : dnext s dnf s.S.row = some s.beats := by
        unfold dnext
        rw [if_pos ⟨c1, rfl⟩, c2]
      rw [e1]
      exact ⟨D, by rw [valV_put, if_pos rfl], d2, by rw [hb]; exact d3⟩
    · have e1 : dnext s dnf r = dnf r := by
        unfold dnext
        rw [if_neg (fun z => e z.2)]
      have e2 : valV (putK kvs (.inl s.S.row) (.ref D)) (.inl r) = valV kvs (.inl r) := by
        rw [valV_put, if_neg (fun z => e (by cases z; rfl))]
      rw [e1, e2]
      cases hr : dnf r with
      | none =>
        have := h2 r
        rw [hr] at this
        exact this
      | some t => exact keep r t hr
  · have en : dnext s dnf = dnf := by
      funext r
      unfold dnext
      by_cases e : s.doneB = true ∧ s.S.row = r
      · obtain ⟨e1, e2⟩ := e
        subst e2
        rw [if_pos ⟨e1, rfl⟩]
        cases hr : dnf s.S.row with
        | none => exact absurd ⟨e1, hr⟩ c
        | some t => rfl
      · rw [if_neg e]
    rw [en]
    refine ⟨_, by rw [eo]; exact d1, fun r => ?_⟩
    cases hr : dnf r with
    | none =>
      have := h2 r
      rw [hr] at this
      exact this
    | some t => exact keep r t hr
section
variable {P : Program} {w : World} {K : PySem.W.Frag} {mg : Str → Option Value} {base : Heap} {H H' : Hp}
theorem WatchAt.ob0 {b : WaA} {s : HS} {g : GH} {dnf : Int → Option Int} {wp : WP} {on : Int → List V} (W : WatchAt K H b s g 0 dnf wp) : ObAt H b (fun _ => none) on := by
  obtain ⟨kvs, h1, h2⟩ := W.ob
  have e : kvs = [] := List.length_eq_zero_iff.mp (by omega)
  subst e
  exact ⟨[], h1, fun r => rfl⟩
def sp_Watch_init (K : PySem.W.Frag) : Sp := fun vs H Q _ => ∃ (wt dw pa wl ml al : Addr) (rs ts qs : List Addr) (prog : List Row) (ks : List Wk) (ws : List Int) (as : List (Int × Int)), vs = [.ref wt, .ref pa, .ref wl, .ref ml, .ref al] ∧ H wt = some (.ins (cWatch K) dw []) ∧
  ProgAt K H pa rs prog ∧ WorksAt K H wl ts ks ∧ ks.length ≤ 6 ∧ (∀ k ∈ ks, 0 < k.many ∧ k.many ≤ 16) ∧ SqL K H ml (ws.map V.int) ∧ AsksAt K H al qs as ∧
  ∀ H' (b : WaA), b.wt = wt → WatchAt K H' b (HS.at0 prog as ks ws) (GH.none ks.length) 0 (fun _ => none) WP.nil → (∀ x ∈ b.foot, x ≠ wt → H x = none) → Kept [wt] H H' → Q .non H'
theorem ok_Watch_init (T : T w K mg) : FnR P w K mg base CX0 7 (He.ma K (He.ga K "Watch") "__init__") (sp_Watch_init K) := by
  have F_Floor_init : FnR P w K mg base CX0 5 _ _ := ok_Floor_init T
  obtain ⟨fd, F⟩ := T.f_Watch_init
  refine F.r sc_Watch_init (fun _ _ _ _ _ _ us hl => match us, hl with | [_, _, _, _, _], _ => rfl) (fun vs H Q E h => ?_) (fun cdv A outer s0 H vs Q E hr h => ?_)
  · obtain ⟨_, _, _, _, _, _, _, _, _, _, _, _, _, rfl, _⟩ := h
    rfl
  · obtain ⟨wt, dw, pa, wl, ml, al, rs, ts, qs, prog, ks, ws, as, rfl, hself, Pr, W, w6, wok, Ml, As, q⟩ := h
    refine ⟨_, (pss_cons (ps_fld (pv 0) (pe_mkR T.mk_Floor F_Floor_init (hr.mono (by decide)) rfl T.g_Floor (pa_cons (pv 1) (pa_cons (pv 2) (pa_cons (pv 3) (pa_cons (pv 4) pa_nil))))) rfl)
  (pss_cons (ps_fld (pv 0) pe_dnewK rfl)
  (pss_cons (ps_fld (pv 0) pe_dnewK rfl)
  (pss_cons (ps_fld (pv 0) (pe_lst pa_nil) rfl)
  (pss_cons (ps_fld (pv 0) pe_non rfl)
  (pss_one (ps_fld (pv 0) (pe_lst pa_nil) rfl))))))), ?_⟩
    refine ⟨_, rfl, _, rfl, _, rfl, _, rfl, ?_⟩
    intro f df nf ndf nef
    have s2 : Same H (upd (upd H df (.own f)) f (.ins (cFloor K) df [])) := fun b o e => by
      rw [upd_ne (ne_of_none e nf), upd_ne (ne_of_none e ndf)]
      exact e
    refine ⟨f, df, pa, wl, ml, al, rs, ts, qs, prog, ks, ws, as, rfl, upd_same, Pr.same s2, W.same s2, w6, wok, s2.seq Ml, As.same s2, fun H3 B hB L3 nB nal k3 => ⟨rfl, ?_⟩⟩ -- Floor(..)
    subst hB
    have s3 : Same H H3 := fun b o e => k3 b o (s2 b o e) (by simpa using ne_of_none e nf)
    have nB0 : ∀ b ∈ B.foot, H b = none := fun b hb => by
      by_cases e : b = B.h
      · rw [e]; exact nf
      · exact Same.free s2 (nB b hb e)
    have nal0 : H B.al = none := Same.free s2 nal
    have gas0 : B.da.gas = [] := List.length_eq_zero_iff.mp (by rw [L3.dv.glen]; rfl)
    have hself3 := s3 _ _ hself
    /- the own things, one by one: nothing else changes -/
    have nwB : wt ∉ B.foot := fun z => by rw [nB0 wt z] at hself; cases hself
    have nwal : wt ≠ B.al := fun z => by rw [z, nal0] at hself; cases hself
    refine stf hself3 T.cl_Watch T.n_Watch_floor (by decide) rfl ?_ -- self.floor
    generalize e4 : upd H3 wt _ = H4
    have hw4 : H4 wt = some (.ins (cWatch K) dw (putF "floor" (V.ref B.h) [])) := by rw [← e4]; exact upd_same
    have k4 : Kept [wt] H3 H4 := by rw [← e4]; exact (Kept.refl _ _).put (by simp)
    have fr4 : ∀ x, H4 x = none → H3 x = none := fun x hx => by rw [← e4] at hx; exact upd_none hx
    clear e4
    intro dn ndn
    have s5 : Same H4 (upd H4 dn (.dK [])) := Same.new (Same.refl _) ndn
    have hdn5 : upd H4 dn (.dK []) dn = some (.dK []) := upd_same
    generalize upd H4 dn (.dK []) = H5 at s5 hdn5
    refine stf (s5 _ _ hw4) T.cl_Watch T.n_Watch_dones (lt1000 (by kernel_rfl)) rfl ?_ -- self.dones
    generalize e6 : upd H5 wt _ = H6
    have hw6 : H6 wt = some (.ins (cWatch K) dw (putF "dones" (V.ref dn) (putF "floor" (V.ref B.h) []))) := by rw [← e6]; exact upd_same
    have k6 : Kept [wt] H5 H6 := by rw [← e6]; exact (Kept.refl _ _).put (by simp)
    have fr6 : ∀ x, H6 x = none → H5 x = none := fun x hx => by rw [← e6] at hx; exact upd_none hx
    clear e6
    intro ob nob
    have s7 : Same H6 (upd H6 ob (.dK [])) := Same.new (Same.refl _) nob
    have hob7 : upd H6 ob (.dK []) ob = some (.dK []) := upd_same
    generalize upd H6 ob (.dK []) = H7 at s7 hob7
    refine stf (s7 _ _ hw6) T.cl_Watch T.n_Watch_on_behind (lt1000 (by kernel_rfl)) rfl ?_ -- self.on_behind
    generalize e8 : upd H7 wt _ = H8
    have hw8 : H8 wt = some (.ins (cWatch K) dw (putF "on_behind" (V.ref ob) (putF "dones" (V.ref dn) (putF "floor" (V.ref B.h) [])))) := by rw [← e8]; exact upd_same
    have k8 : Kept [wt] H7 H8 := by rw [← e8]; exact (Kept.refl _ _).put (by simp)
    have fr8 : ∀ x, H8 x = none → H7 x = none := fun x hx => by rw [← e8] at hx; exact upd_none hx
    clear e8
    refine ⟨by show 0 ≤ sizeLine; decide, fun pr npr => ?_⟩
    have s9 : Same H8 (upd H8 pr (.lst [])) := Same.new (Same.refl _) npr
    have hpr9 : upd H8 pr (.lst []) pr = some (.lst []) := upd_same
    generalize upd H8 pr (.lst []) = H9 at s9 hpr9
    refine stf (s9 _ _ hw8) T.cl_Watch T.n_Watch_pairs (lt1000 (by kernel_rfl)) rfl ?_ -- self.pairs
    refine stf upd_same T.cl_Watch T.n_Watch_first_get (lt1000 (by kernel_rfl)) rfl ?_ -- self.first_get
    rw [upd_upd]
    generalize e10 : upd H9 wt _ = H10
    have hw10 : H10 wt = some (.ins (cWatch K) dw (putF "first_get" V.non (putF "pairs" (V.ref pr) (putF "on_behind" (V.ref ob) (putF "dones" (V.ref dn) (putF "floor" (V.ref B.h) [])))))) := by rw [← e10]; exact upd_same
    have k10 : Kept [wt] H9 H10 := by rw [← e10]; exact (Kept.refl _ _).put (by simp)
    have fr10 : ∀ x, H10 x = none → H9 x = none := fun x hx => by rw [← e10] at hx; exact upd_none hx
    clear e10
    refine ⟨by show 0 ≤ sizeLine; decide, fun gl ngl => ?_⟩
    have s11 : Same H10 (upd H10 gl (.lst [])) := Same.new (Same.refl _) ngl
    have hgl11 : upd H10 gl (.lst []) gl = some (.lst []) := upd_same
    generalize upd H10 gl (.lst []) = H11 at s11 hgl11
    refine stf (s11 _ _ hw10) T.cl_Watch T.n_Watch_goings (lt1000 (by kernel_rfl)) (wa_made B.h dn ob pr none gl) ?_ -- self.goings
    generalize e12 : upd H11 wt _ = H12
    have hw12 : H12 wt = some (.ins (cWatch K) dw (waF ⟨B.h, dn, ob, pr, none, gl⟩)) := by rw [← e12]; exact upd_same
    have k12 : Kept [wt] H11 H12 := by rw [← e12]; exact (Kept.refl _ _).put (by simp)
    clear e12
    have k311 : Kept [wt] H3 H11 := ((((((k4.trans (Kept.same s5)).trans k6).trans (Kept.same s7)).trans k8).trans (Kept.same s9)).trans k10).trans (Kept.same s11)
    have k312 : Kept [wt] H3 H12 := k311.trans k12
    have ndn3 : H3 dn = none := fr4 _ ndn
    have nob3 : H3 ob = none := fr4 _ (Same.free s5 (fr6 _ nob))
    have npr3 : H3 pr = none := fr4 _ (Same.free s5 (fr6 _ (Same.free s7 (fr8 _ npr))))
    have ngl3 : H3 gl = none := fr4 _ (Same.free s5 (fr6 _ (Same.free s7 (fr8 _ (Same.free s9 (fr10 _ ngl))))))
    have dw' : dn ≠ wt := ne_of_none' hself3 ndn3
    have ow' : ob ≠ wt := ne_of_none' hself3 nob3
    have pw' : pr ≠ wt := ne_of_none' hself3 npr3
    have gw' : gl ≠ wt := ne_of_none' hself3 ngl3
    have hdn6 := k6 _ _ hdn5 (by simpa using dw')
    have hdn8 := k8 _ _ (s7 _ _ hdn6) (by simpa using dw')
    have hdn10 := k10 _ _ (s9 _ _ hdn8) (by simpa using dw')
    have hob8 := k8 _ _ hob7 (by simpa using ow')
    have hob10 := k10 _ _ (s9 _ _ hob8) (by simpa using ow')
    have hpr10 := k10 _ _ hpr9 (by simpa using pw')
    have do' : dn ≠ ob := ne_of_none hdn6 nob
    have dp' : dn ≠ pr := ne_of_none hdn8 npr
    have dg' : dn ≠ gl := ne_of_none hdn10 ngl
    have op' : ob ≠ pr := ne_of_none hob8 npr
    have og' : ob ≠ gl := ne_of_none hob10 ngl
    have pg' : pr ≠ gl := ne_of_none hpr10 ngl
    have inw : ∀ b ∈ [wt], ∃ u, H3 b = some u ∧ notTup u = true := fun b hb => by
      have e : b = wt := by simpa using hb
      rw [e]
      exact ⟨_, hself3, rfl⟩
    have L12 : FlAt K H12 B (HS.at0 prog as ks ws) (GH.none ks.length) := L3.own k312 (fun x hx => by
      have e : x = wt := by simpa using hx
      rw [e]
      exact nwB) (fun x hx => by
      have e : x = wt := by simpa using hx
      rw [e]
      exact nwal) inw
    have new3 : ∀ {x : Addr}, H3 x = none → x ∉ B.foot ∧ x ≠ B.al := fun {x} hx => by
      refine ⟨fun z => ?_, fun z => ?_⟩
      · obtain ⟨u, hu, _⟩ := L3.inF x z
        rw [hx] at hu
        cases hu
      · have := L3.als
        rw [← z, hx] at this
        cases this
    refine q H12 ⟨wt, dw, dn, ob, pr, gl, none, B⟩ rfl ⟨hw12, L12, ⟨[], k12 _ _ (s11 _ _ hdn10) (by simpa using dw'), Nat.le_refl _, fun r => rfl⟩, ⟨[], k12 _ _ (s11 _ _ hob10) (by simpa using ow'), Nat.le_refl _⟩, ⟨[], ⟨k12 _ _ (s11 _ _ hpr10) (by simpa using pw'), rfl, fun j p y e1 => by simp at e1⟩⟩, ?_, Nat.le_refl _, fun x hx => ?_, fun x hx => ?_, ?_, Nat.le_refl _, trivial, fun a c _ h => absurd (show (0 : Int) = 1 from h) (by decide)⟩ (fun x hx hne => ?_) ((Kept.same s3).trans k312)
    · show H12 gl = some (.lst (B.da.gas.map fun x => V.ref x.g))
      rw [gas0]
      exact k12 _ _ hgl11 (by simpa using gw')
    · have hx' : x ∈ [wt, dn, ob, pr, gl] := hx
      simp only [List.mem_cons] at hx'
      rcases hx' with rfl | rfl | rfl | rfl | rfl | z
      · exact nwB
      · exact (new3 ndn3).1
      · exact (new3 nob3).1
      · exact (new3 npr3).1
      · exact (new3 ngl3).1
      · cases z
    · have hx' : x ∈ [wt, dn, ob, pr, gl] := hx
      simp only [List.mem_cons] at hx'
      rcases hx' with rfl | rfl | rfl | rfl | rfl | z
      · exact nwal
      · exact (new3 ndn3).2
      · exact (new3 nob3).2
      · exact (new3 npr3).2
      · exact (new3 ngl3).2
      · cases z
    · show [wt, dn, ob, pr, gl].Nodup
      simp [Ne.symm dw', Ne.symm ow', Ne.symm pw', Ne.symm gw', do', dp', dg', op', og', pg']
    · rcases List.mem_append.mp hx with hx | hx
      · have hx' : x ∈ [wt, dn, ob, pr, gl] := hx
        simp only [List.mem_cons] at hx'
        rcases hx' with rfl | rfl | rfl | rfl | rfl | z
        · exact absurd rfl hne
        · exact Same.free s3 ndn3
        · exact Same.free s3 nob3
        · exact Same.free s3 npr3
        · exact Same.free s3 ngl3
        · cases z
      · exact nB0 x hx
end
end SB

set_option Elab.async false
set_option linter.all false
set_option maxRecDepth 100000
set_option maxHeartbeats 2000000
namespace SB
open PySem L2
section
variable {P : Program} {w : World} {K : PySem.W.Frag} {mg : Str → Option Value} {base : Heap} {H H' : Hp}
def sp_Watch_run_till (K : PySem.W.Frag) : Sp := fun vs H Q _ => ∃ (b : WaA) (s : HS) (g : GH) (row : Int) (m : Nat), vs = [.ref b.wt, .int row, .int (m : Int)] ∧ WatchAt K H b s g 0 (fun _ => none) WP.nil ∧ HOk s ∧ s.beats = 0 ∧ m ≤ 300 ∧
  ∀ (H' : Hp) (b' : WaA) (j : Nat), b'.wt = b.wt → b'.dn = b.dn → j ≤ m → (dnN s j row ≠ none ∨ j = m) → WatchAt K H' b' (s.after j) (s.gafter g j) j (dnN s j) (wpN s j) → Step b.foot H b'.foot H' → ObAt H' b' (dnN s j) (onT s) → Q .non H'
theorem ok_Watch_run_till (T : T w K mg) : FnR P w K mg base CX0 8 (He.ma K (He.ga K "Watch") "run_till") (sp_Watch_run_till K) := by
  have F_Watch_step : FnR P w K mg base CX0 7 _ _ := ok_Watch_step T
  obtain ⟨fd, F⟩ := T.f_Watch_run_till
  refine F.r sc_Watch_run_till (fun _ _ _ _ _ _ us hl => match us, hl with | [_, _, _], _ => rfl) (fun vs H Q E h => ?_) (fun cdv A outer s0 H vs Q E hr h => ?_)
  · obtain ⟨_, _, _, _, _, rfl, _⟩ := h
    rfl
  · obtain ⟨b, s, g, row, m, rfl, W, O, b0, m1, q⟩ := h
    have hu := hr.units
    have hu1 : (A.deeper (PyProof.Rows.envOfC "Watch.run_till" (defScope s_Watch_run_till) s0.heap.objs.size (He.ma K (He.ga K "Watch") "run_till") cdv)).units + 1 < cLine := by omega
    refine ⟨_, (pss_one (ps_while PassesOwn.never (PW.pt (pw_and (pt_cmp (pc_dnotin hu1 (pv 1) (pe_fld (pv 0) rfl))) (pw_and1 (pt_cmpR op_lt (pe_fld (pe_fld (pv 0) rfl) rfl) (pv 2) (nomark _)))))
  (pss_one (ps_expr (pe_mth0R (pv 0) T.cl_Watch T.m_Watch_step F_Watch_step (hr.mono (by decide))))))), ?_⟩
    refine ⟨fun x σ H2 => ∃ (j : Nat) (b' : WaA), x = m - j ∧ j ≤ m ∧ σ = [some (.ref b.wt), some (.int row), some (.int (m : Int))] ∧ b'.wt = b.wt ∧ b'.dn = b.dn ∧ WatchAt K H2 b' (s.after j) (s.gafter g j) j (dnN s j) (wpN s j) ∧ Step b.foot H b'.foot H2 ∧ ObAt H2 b' (dnN s j) (onT s),
      ⟨_, 0, b, rfl, Nat.zero_le _, rfl, rfl, rfl, W, Step.refl _ _, W.ob0⟩, ?_⟩
    rintro x σ H2 ⟨j, b', rfl, hj, rfl, e1, e2, W2, st2, o2⟩
    obtain ⟨kvs, d1, _, d2⟩ := W2.dn
    have hbt : (s.after j).beats = (j : Int) := by rw [beats_aft, b0]; omega
    have wo := W2.wo
    rw [e1] at wo
    refine ⟨_, rfl, _, rfl, _, _, _, _, _, rfl, wo, T.cl_Watch, T.n_Watch_dones, wa_dones _, b'.dn, _, rfl, DGet.k (k := .inl row) d1, _, rfl, ?_⟩
    rw [d2]
    cases hd : dnN s j row with
    | some t =>
      exact iteF (iteF (q _ b' j e1 e2 hj (.inl (by rw [hd]; exact fun z => by cases z)) W2 st2 o2))
    | none =>
      refine iteT ?_
      refine ⟨_, rfl, _, _, _, _, _, rfl, wo, T.cl_Watch, T.n_Watch_floor, wa_floor _, ?_⟩
      refine ⟨_, _, _, _, _, rfl, W2.fl.ob, T.cl_Floor, T.n_Floor_beats, fl_beats _, ?_⟩
      refine ⟨_, rfl, _, _, rfl, rfl, _, rfl, ?_⟩
      rw [hbt]
      by_cases hlt : (j : Int) < (m : Int)
      · rw [decide_eq_true hlt]
        refine iteT ⟨fun σ' H' => ∃ b3 : WaA, σ' = [some (.ref b.wt), some (.int row), some (.int (m : Int))] ∧ b3.wt = b.wt ∧ b3.dn = b.dn ∧ WatchAt K H' b3 (s.after (j + 1)) (s.gafter g (j + 1)) (j + 1) (dnN s (j + 1)) (wpN s (j + 1)) ∧ Step b.foot H b3.foot H' ∧ ObAt H' b3 (dnN s (j + 1)) (onT s), ?_, ?_⟩
        · rintro σ' H' ⟨b3, rfl, a1, a2, W3, st3, o3⟩
          exact ⟨m - (j + 1), by omega, j + 1, b3, rfl, by omega, rfl, a1, a2, W3, st3, o3⟩
        · refine ⟨_, rfl, _, _, _, rfl, wo, wa_no_step _, ?_⟩
          refine ⟨b', _, _, j, _, _, by rw [e1], W2, O.after j, by omega, fun H3 b3 a1 a2 W3 st3 on3 => ?_⟩
          exact ⟨b3, rfl, a1.trans e1, a2.trans e2, W3, st2.trans st3, o2.step st3 on3 (onT_at s j)⟩
      · rw [decide_eq_false hlt]
        have ej : j = m := by omega
        exact iteF (q _ b' j e1 e2 hj (.inr ej) W2 st2 o2)
end
end SB

set_option Elab.async false
set_option linter.all false
set_option maxRecDepth 100000
namespace L2
open PySem PySem.Spec PyProof.Rows
section
variable {X : Cx}
def rUpdD : V → List V → Hp → VK → Prop := fun x vs H Q => ∃ (a o : Addr) (kvs more : List (Key × V)), x = .ref a ∧ vs = [.ref o] ∧ H a = some (.dK kvs) ∧ H o = some (.dK more) ∧ a ≠ o ∧ kvs.length + more.length ≤ sizeLine ∧ Q .non (upd H a (.dK (mergeK kvs more)))
theorem mt_updD : MtM X "dict.update" rUpdD := by
  intro pins s σ H x vs v us Q I rx rv h
  obtain ⟨a, o, kvs, more, rfl, rfl, hH, hO, hne, hz, q⟩ := h
  cases rx
  obtain ⟨u, rfl, ru⟩ := rv.one
  cases ru
  obtain ⟨z, hsm, vs0, r0, dd⟩ := dk_of I.hok hH
  obtain ⟨z2, hsm2, vs2, r2, dd2⟩ := dk_of I.hok hO
  have hlen : (mergeK kvs more).length ≤ sizeLine := Nat.le_trans (length_mergeK more kvs) (by omega)
  refine call_meetsIn F.slot_dict_update dd.typeIs F.entry_dict_update (F.args_dict_update_2 _ _) (meets_dict_update (mixKind X.prog X.w) a o hne hsm2)
    ⟨vs0, vs2, dd, dd2, (by rw [← r0.length, ← r2.length]; exact hz), fun h' hmm _ hs => ?_⟩
  have he : ∃ q, h'.get? a = some q := let ⟨q, _, _, hq, _⟩ := hmm; ⟨q, hq⟩
  exact ⟨.non, _, I.write (t' := s.toks) (x := a) (e := a) (by rw [hH]; exact True.intro) (.inl rfl) (fun b o hb e => by rw [hs.2 b hb]; exact e) he (dk_new hlen hsm (KV.merge r2 r0) hmm), rfl, q⟩
end
end L2

set_option Elab.async false
set_option linter.all false
set_option maxRecDepth 100000
set_option maxHeartbeats 2000000
namespace SB
open PySem PySem.Spec PyProof.Rows L2
structure Ls where
  program : Addr
  works : Addr
  memory : Addr
  asks : Addr
  cells : Addr
  marks : Addr
  row : Int
  left : Int
  time : Int
  on : Addr
  ever : Int
  took : Bool
  firsts : Addr
  laid : Addr
  pairs : Addr
  half : Int
def lsK (k : Ls) : List (Key × V) := [(.inr "program", .ref k.program), (.inr "works", .ref k.works), (.inr "memory", .ref k.memory), (.inr "asks", .ref k.asks), (.inr "cells", .ref k.cells), (.inr "marks", .ref k.marks), (.inr "row", .int k.row), (.inr "left", .int k.left), (.inr "time", .int k.time), (.inr "on", .ref k.on), (.inr "ever", .int k.ever), (.inr "took", .bl k.took), (.inr "firsts", .ref k.firsts), (.inr "laid", .ref k.laid), (.inr "pairs", .ref k.pairs), (.inr "half", .int k.half)]
theorem ls_program (k : Ls) : valV (lsK k) (.inr ("program" : Str)) = some (V.ref k.program) := by kernel_rfl
theorem ls_put_program (k : Ls) (x : Addr) : putK (lsK k) (.inr ("program" : Str)) (V.ref x) = lsK { k with program := x } := by kernel_rfl
theorem ls_works (k : Ls) : valV (lsK k) (.inr ("works" : Str)) = some (V.ref k.works) := by kernel_rfl
theorem ls_put_works (k : Ls) (x : Addr) : putK (lsK k) (.inr ("works" : Str)) (V.ref x) = lsK { k with works := x } := by kernel_rfl
theorem ls_memory (k : Ls) : valV (lsK k) (.inr ("memory" : Str)) = some (V.ref k.memory) := by kernel_rfl
theorem ls_put_memory (k : Ls) (x : Addr) : putK (lsK k) (.inr ("memory" : Str)) (V.ref x) = lsK { k with memory := x } := by kernel_rfl
theorem ls_asks (k : Ls) : valV (lsK k) (.inr ("asks" : Str)) = some (V.ref k.asks) := by kernel_rfl
theorem ls_put_asks (k : Ls) (x : Addr) : putK (lsK k) (.inr ("asks" : Str)) (V.ref x) = lsK { k with asks := x } := by kernel_rfl
theorem ls_cells (k : Ls) : valV (lsK k) (.inr ("cells" : Str)) = some (V.ref k.cells) := by kernel_rfl
theorem ls_put_cells (k : Ls) (x : Addr) : putK (lsK k) (.inr ("cells" : Str)) (V.ref x) = lsK { k with cells := x } := by kernel_rfl
theorem ls_marks (k : Ls) : valV (lsK k) (.inr ("marks" : Str)) = some (V.ref k.marks) := by kernel_rfl
theorem ls_put_marks (k : Ls) (x : Addr) : putK (lsK k) (.inr ("marks" : Str)) (V.ref x) = lsK { k with marks := x } := by kernel_rfl
theorem ls_row (k : Ls) : valV (lsK k) (.inr ("row" : Str)) = some (V.int k.row) := by kernel_rfl
theorem ls_put_row (k : Ls) (x : Int) : putK (lsK k) (.inr ("row" : Str)) (V.int x) = lsK { k with row := x } := by kernel_rfl
theorem ls_left (k : Ls) : valV (lsK k) (.inr ("left" : Str)) = some (V.int k.left) := by kernel_rfl
theorem ls_put_left (k : Ls) (x : Int) : putK (lsK k) (.inr ("left" : Str)) (V.int x) = lsK { k with left := x } := by kernel_rfl
theorem ls_time (k : Ls) : valV (lsK k) (.inr ("time" : Str)) = some (V.int k.time) := by kernel_rfl
theorem ls_put_time (k : Ls) (x : Int) : putK (lsK k) (.inr ("time" : Str)) (V.int x) = lsK { k with time := x } := by kernel_rfl
theorem ls_on (k : Ls) : valV (lsK k) (.inr ("on" : Str)) = some (V.ref k.on) := by kernel_rfl
theorem ls_put_on (k : Ls) (x : Addr) : putK (lsK k) (.inr ("on" : Str)) (V.ref x) = lsK { k with on := x } := by kernel_rfl
theorem ls_ever (k : Ls) : valV (lsK k) (.inr ("ever" : Str)) = some (V.int k.ever) := by kernel_rfl
theorem ls_put_ever (k : Ls) (x : Int) : putK (lsK k) (.inr ("ever" : Str)) (V.int x) = lsK { k with ever := x } := by kernel_rfl
theorem ls_took (k : Ls) : valV (lsK k) (.inr ("took" : Str)) = some (V.bl k.took) := by kernel_rfl
theorem ls_put_took (k : Ls) (x : Bool) : putK (lsK k) (.inr ("took" : Str)) (V.bl x) = lsK { k with took := x } := by kernel_rfl
theorem ls_firsts (k : Ls) : valV (lsK k) (.inr ("firsts" : Str)) = some (V.ref k.firsts) := by kernel_rfl
theorem ls_put_firsts (k : Ls) (x : Addr) : putK (lsK k) (.inr ("firsts" : Str)) (V.ref x) = lsK { k with firsts := x } := by kernel_rfl
theorem ls_laid (k : Ls) : valV (lsK k) (.inr ("laid" : Str)) = some (V.ref k.laid) := by kernel_rfl
theorem ls_put_laid (k : Ls) (x : Addr) : putK (lsK k) (.inr ("laid" : Str)) (V.ref x) = lsK { k with laid := x } := by kernel_rfl
theorem ls_pairs (k : Ls) : valV (lsK k) (.inr ("pairs" : Str)) = some (V.ref k.pairs) := by kernel_rfl
theorem ls_put_pairs (k : Ls) (x : Addr) : putK (lsK k) (.inr ("pairs" : Str)) (V.ref x) = lsK { k with pairs := x } := by kernel_rfl
theorem ls_half (k : Ls) : valV (lsK k) (.inr ("half" : Str)) = some (V.int k.half) := by kernel_rfl
theorem ls_put_half (k : Ls) (x : Int) : putK (lsK k) (.inr ("half" : Str)) (V.int x) = lsK { k with half := x } := by kernel_rfl
theorem ls_made (program : Addr) (works : Addr) (memory : Addr) (asks : Addr) (cells : Addr) (marks : Addr) (row : Int) (left : Int) (time : Int) (on : Addr) (ever : Int) (took : Bool) (firsts : Addr) (laid : Addr) (pairs : Addr) (half : Int) : mergeK (mergeK (mergeK [] [((.inr ("program" : Str) : Key), V.ref program), ((.inr ("works" : Str) : Key), V.ref works), ((.inr ("memory" : Str) : Key), V.ref memory), ((.inr ("asks" : Str) : Key), V.ref asks), ((.inr ("cells" : Str) : Key), V.ref cells)]) [((.inr ("marks" : Str) : Key), V.ref marks), ((.inr ("row" : Str) : Key), V.int row), ((.inr ("left" : Str) : Key), V.int left), ((.inr ("time" : Str) : Key), V.int time), ((.inr ("on" : Str) : Key), V.ref on)]) [((.inr ("ever" : Str) : Key), V.int ever), ((.inr ("took" : Str) : Key), V.bl took), ((.inr ("firsts" : Str) : Key), V.ref firsts), ((.inr ("laid" : Str) : Key), V.ref laid), ((.inr ("pairs" : Str) : Key), V.ref pairs), ((.inr ("half" : Str) : Key), V.int half)] = lsK ⟨program, works, memory, asks, cells, marks, row, left, time, on, ever, took, firsts, laid, pairs, half⟩ := by kernel_rfl
theorem ls_len (k : Ls) : (lsK k).length = 16 := rfl
end SB

set_option Elab.async false
set_option linter.all false
set_option maxRecDepth 100000
set_option maxHeartbeats 2000000
namespace SB
open PySem PySem.Spec PyProof.Rows L2
theorem at_0m {x : V} {xs : List V} : atI (x :: xs) 0 = some x := by
  unfold atI ixN
  simp
def longOf (prog : List Row) (row : Int) : Int := match prog[row.toNat]? with
  | none => 0
  | some r => r.beats
def Row.isPL : Row → Bool
  | .pair _ _ => true | .lay _ _ => true | _ => false
def Row.isW : Row → Bool
  | .get _ _ => true | .getx _ _ => true | .put _ _ => true | .putx _ _ => true | .pair _ _ => true | .lay _ _ => true | _ => false
theorem in_pl (r : Row) : inV (.str r.nm) [.str "pair", .str "lay"] = r.isPL := by cases r <;> kernel_rfl
theorem in_w (r : Row) : inV (.str r.nm) [.str "get", .str "getx", .str "put", .str "putx", .str "pair", .str "lay"] = r.isW := by cases r <;> kernel_rfl
theorem nm_rest {r : Row} (h : r.nm = "rest") : ∃ n, r = .rest n := by
  cases r <;> first | exact ⟨_, rfl⟩ | exact absurd h (of_decide_eq_false (by kernel_rfl))
theorem beats_pl {r : Row} (h : ∀ n, r ≠ .rest n) : r.beats = if r.isPL = true then 2 else 1 := by
  cases r <;> first | rfl | exact absurd rfl (h _)
theorem isW_word {r : Row} (sp : Int) (c : List Int) : (r.word sp c).isSome = r.isW := by cases r <;> rfl
section
variable {P : Program} {w : World} {K : PySem.W.Frag} {mg : Str → Option Value} {base : Heap} {H H' : Hp}
def sp_l_long (K : PySem.W.Frag) : Sp := fun vs H Q _ => ∃ (pa : Addr) (rs : List Addr) (prog : List Row) (row : Int), vs = [.ref pa, .int row] ∧ ProgAt K H pa rs prog ∧ 0 ≤ row ∧ ∀ H', Same H H' → Q (.int (longOf prog row)) H'
structure LsAt (K : PySem.W.Frag) (H : Hp) (sd : Addr) (k : Ls) (rs : List Addr) (s : HS) : Prop where
  ob : H sd = some (.dK (lsK k))
  pr : ProgAt K H k.program rs s.prog
  wk : H k.works = some (.lst [])
  ak : H k.asks = some (.lst [])
  on : H k.on = some (.lst [])
  mem : H k.memory = some (.lst (s.ws.map V.int))
  cel : H k.cells = some (.lst (s.S.cells.map V.int))
  mrk : H k.marks = some (.lst (s.S.marks.map V.bl))
  fst : ∃ fs : List (Option Int), H k.firsts = some (.lst (fs.map oV)) ∧ fs.length = s.prog.length
  prs : ∃ xs, H k.pairs = some (.lst xs) ∧ (xs.length : Int) ≤ s.beats
  row : k.row = s.S.row
  left : k.left = longOf s.prog s.S.row - s.S.spent
  time : k.time = s.beats
  nd : [k.memory, k.cells, k.marks, k.firsts, k.pairs, k.on, k.asks, k.works].Nodup
def sp_l_is_for_word (K : PySem.W.Frag) : Sp := fun vs H Q _ => ∃ (sd : Addr) (k : Ls) (rs : List Addr) (prog : List Row), vs = [.ref sd] ∧ H sd = some (.dK (lsK k)) ∧ ProgAt K H k.program rs prog ∧ 0 ≤ k.row ∧ ∀ H', Same H H' → Q (.bl (match prog[k.row.toNat]? with | some r => r.isW | none => false)) H'
end
end SB

set_option Elab.async false
set_option linter.all false
set_option maxRecDepth 100000
set_option maxHeartbeats 2000000
namespace SB
open PySem PySem.Spec PyProof.Rows L2
section
variable {P : Program} {w : World} {K : PySem.W.Frag} {mg : Str → Option Value} {base : Heap} {H H' : Hp}
def sp_l_start0 (K : PySem.W.Frag) : Sp := fun vs H Q _ => ∃ (sd : Addr) (k : Ls) (n : Int), vs = [.ref sd, .int n] ∧ H sd = some (.dK (lsK k)) ∧ SqL K H k.works [] ∧ 0 ≤ n ∧ Q .non H
def sp_l_device0 (K : PySem.W.Frag) : Sp := fun vs H Q _ => ∃ (sd : Addr) (k : Ls), vs = [.ref sd] ∧ H sd = some (.dK (lsK k)) ∧ H k.on = some (.lst []) ∧
  ∀ H', H' sd = some (.dK (lsK { k with took := false })) → Kept [sd] H H' → (∀ b, H' b = none → H b = none) → Q .non H'
end
end SB

set_option Elab.async false
set_option linter.all false
set_option maxRecDepth 100000
set_option maxHeartbeats 2000000
namespace SB
open PySem PySem.Spec PyProof.Rows L2
def Row.isG : Row → Bool
  | .get _ _ => true | .getx _ _ => true | .pair _ _ => true | _ => false
theorem in_g (r : Row) : inV (.str r.nm) [.str "get", .str "getx", .str "pair"] = r.isG := by cases r <;> kernel_rfl
theorem get_facts {r : Row} {n : Nat} {sp : Int} {c : List Int} {z : Str} {p cl : Int} (hG : r.isG = true) (h : r.word sp c = some (z, p, cl)) (ok : r.okW n) (s0 : 0 ≤ sp) (s1 : sp < r.beats) :
    z = "get" ∧ ∃ r1 r2 : Int, r.vs = [.str r.nm, .int r1, .int r2] ∧ cl = r1 + sp ∧ (r.nm = "getx" → p = c.getD r2.toNat 0 ∧ 0 ≤ r2 ∧ r2 < 4) ∧ (r.nm ≠ "getx" → p = r2 + sp) := by
  cases r with
  | get a b =>
    have e := Option.some.inj h
    have h1 : sp = 0 := by have : sp < 1 := s1; omega
    simp only [Prod.mk.injEq] at e
    exact ⟨e.1.symm, a, b, rfl, by omega, fun hn => absurd hn (of_decide_eq_false (by kernel_rfl)), fun _ => by omega⟩
  | getx a b =>
    have e := Option.some.inj h
    have h1 : sp = 0 := by have : sp < 1 := s1; omega
    simp only [Prod.mk.injEq] at e
    obtain ⟨_, ok2⟩ := ok
    obtain ⟨o1, o2⟩ := ok2
    exact ⟨e.1.symm, a, b, rfl, by omega, fun _ => ⟨e.2.1.symm, by omega, by omega⟩, fun hn => absurd (by kernel_rfl) hn⟩
  | pair a b =>
    have e := Option.some.inj h
    simp only [Prod.mk.injEq] at e
    exact ⟨e.1.symm, a, b, rfl, by omega, fun hn => absurd hn (of_decide_eq_false (by kernel_rfl)), fun _ => by omega⟩
  | _ => cases hG
theorem put_facts {r : Row} {n : Nat} {sp : Int} {c : List Int} {z : Str} {p cl : Int} (hG : r.isG = false) (h : r.word sp c = some (z, p, cl)) (ok : r.okW n) (s0 : 0 ≤ sp) (s1 : sp < r.beats) :
    z = "put" ∧ ∃ r1 r2 : Int, r.vs = [.str r.nm, .int r1, .int r2] ∧ cl = r2 + sp ∧ (r.nm = "putx" → p = c.getD r1.toNat 0 ∧ 0 ≤ r1 ∧ r1 < 4) ∧ (r.nm ≠ "putx" → p = r1 + sp) := by
  cases r with
  | put a b =>
    have e := Option.some.inj h
    have h1 : sp = 0 := by have : sp < 1 := s1; omega
    simp only [Prod.mk.injEq] at e
    exact ⟨e.1.symm, a, b, rfl, by omega, fun hn => absurd hn (of_decide_eq_false (by kernel_rfl)), fun _ => by omega⟩
  | putx a b =>
    have e := Option.some.inj h
    have h1 : sp = 0 := by have : sp < 1 := s1; omega
    simp only [Prod.mk.injEq] at e
    obtain ⟨ok1, _⟩ := ok
    obtain ⟨o1, o2⟩ := ok1
    exact ⟨e.1.symm, a, b, rfl, by omega, fun _ => ⟨e.2.1.symm, by omega, by omega⟩, fun hn => absurd (by kernel_rfl) hn⟩
  | lay a b =>
    have e := Option.some.inj h
    simp only [Prod.mk.injEq] at e
    exact ⟨e.1.symm, a, b, rfl, by omega, fun hn => absurd hn (of_decide_eq_false (by kernel_rfl)), fun _ => by omega⟩
  | get a b => cases hG
  | getx a b => cases hG
  | pair a b => cases hG
  | _ => cases h
theorem viaM {te : TE} {σ : L2.St} {H : Hp} {Q : VK} {v : V} (h : ∀ Q' : VK, Q' v H → te σ H Q') (q : Q v H) : te σ H Q := h Q q
theorem seq_m {a b : TS} {D : Ends} {σ : L2.St} {H : Hp} (h : a { D with nx := b D } σ H) : tSeq a b D σ H := h
theorem asg_m {te : TE} {g : TG} {D : Ends} {σ : L2.St} {H : Hp} (h : te σ H fun x H1 => g x σ H1 D.nx) : tAsg te g D σ H := h
theorem op_m {r : R2} {ta tb : TE} {σ : L2.St} {H : Hp} {Q : VK} (h : ta σ H fun x H1 => tb σ H1 fun y H2 => r x y H2 Q) : tOp r ta tb σ H Q := h
theorem viaIfM {tt : TT} {A B : TS} {D0 : Ends} {σ : L2.St} {H : Hp} (J : Hp → Prop) (h : ∀ D : Ends, (∀ H', J H' → D.nx σ H') → tIfS tt A B D σ H) (rest : ∀ H', J H' → D0.nx σ H') : tIfS tt A B D0 σ H := h D0 rest
section
variable {P : Program} {w : World} {K : PySem.W.Frag} {mg : Str → Option Value} {base : Heap} {H H' : Hp}
def sp_l_touch (K : PySem.W.Frag) : Sp := fun vs H Q _ => ∃ (sd t : Addr) (k : Ls) (rs : List Addr) (s : HS) (r : Row) (z : Str) (p cl : Int), vs = [.ref sd, .ref t] ∧ LsAt K H sd k rs s ∧ HOk s ∧ SqT K H t r.vs ∧ s.prog[s.S.row.toNat]? = some r ∧ r.word s.S.spent s.S.cells = some (z, p, cl) ∧ s.beats ≤ 1000 ∧
  ∀ H' h q xs, H' sd = some (.dK (lsK { k with half := h })) → H' k.memory = some (.lst ((useW z p cl s.S.cells s.ws).2.1.map V.int)) → H' k.cells = some (.lst ((useW z p cl s.S.cells s.ws).1.map V.int)) → H' k.pairs = some (.lst xs) → (xs.length : Int) ≤ s.beats + 1 →
    H q = none → H' q = some (.tup [.str z, .int (useW z p cl s.S.cells s.ws).2.2.1, .int (useW z p cl s.S.cells s.ws).2.2.2]) → Kept [sd, k.memory, k.cells, k.pairs] H H' → (∀ b, H' b = none → H b = none) → Q (.ref q) H'
end
end SB

set_option Elab.async false
set_option linter.all false
set_option maxRecDepth 100000
set_option maxHeartbeats 2000000
namespace SB
open PySem PySem.Spec PyProof.Rows L2
def onAt (ks : List Wk) (j : Nat) : Bool := match ks[j]? with
  | some k => k.on
  | none => false
def onNums (ks : List Wk) : List Nat := (List.range ks.length).filter (onAt ks)
theorem onAt_lt {ks : List Wk} {j : Nat} (h : onAt ks j = true) : j < ks.length := by
  unfold onAt at h
  cases e : ks[j]? with
  | none => rw [e] at h; cases h
  | some k => exact (List.getElem?_eq_some_iff.mp e).1
theorem mem_onNums {ks : List Wk} {j : Nat} : j ∈ onNums ks ↔ onAt ks j = true := by
  unfold onNums
  rw [List.mem_filter, List.mem_range]
  exact ⟨fun h => h.2, fun h => ⟨onAt_lt h, h⟩⟩
theorem onNums_lt (ks : List Wk) : (onNums ks).Pairwise (· < ·) := List.Pairwise.filter _ List.pairwise_lt_range
theorem onNums_nd (ks : List Wk) : (onNums ks).Nodup := (onNums_lt ks).imp (fun h => Nat.ne_of_lt h)
theorem onNums_len (ks : List Wk) : (onNums ks).length ≤ ks.length := by
  unfold onNums
  refine Nat.le_trans (List.length_filter_le _ _) ?_
  rw [List.length_range]
  exact Nat.le_refl _
theorem rising_eq {xs ys : List Nat} (hx : xs.Pairwise (· < ·)) (hy : ys.Pairwise (· < ·)) (h : ∀ j, j ∈ xs ↔ j ∈ ys) : xs = ys := by
  have nx : xs.Nodup := hx.imp (fun h => Nat.ne_of_lt h)
  have ny : ys.Nodup := hy.imp (fun h => Nat.ne_of_lt h)
  refine List.Perm.eq_of_pairwise (le := fun a b => a < b) (fun a b _ _ h1 h2 => by omega) hx hy ?_
  exact (List.perm_ext_iff_of_nodup nx ny).mpr h
theorem onFrom_nums (i : Nat) (ks : List Wk) : (onFrom i ks).map (·.1) = (onNums ks).map (· + i) := by
  induction ks generalizing i with
  | nil => rfl
  | cons k r ih =>
    have e1 : onNums (k :: r) = (if k.on = true then [0] else []) ++ (onNums r).map (· + 1) := by
      unfold onNums
      rw [List.length_cons, List.range_succ_eq_map, List.filter_cons]
      have e2 : (List.map Nat.succ (List.range r.length)).filter (onAt (k :: r)) = ((List.range r.length).filter (onAt r)).map (· + 1) := by
        rw [List.filter_map]
        rfl
      rw [e2]
      show (if k.on = true then _ else _) = _
      split <;> rfl
    show (if k.on = true then (i, k) :: onFrom (i + 1) r else onFrom (i + 1) r).map (·.1) = _
    rw [e1, List.map_append, List.map_map]
    have e3 : (onFrom (i + 1) r).map (·.1) = (onNums r).map ((· + i) ∘ (· + 1)) := by
      rw [ih (i + 1)]
      refine List.map_congr_left (fun a _ => ?_)
      show a + (i + 1) = a + 1 + i
      omega
    split
    · rw [List.map_cons, e3]
      simp
    · rw [e3]
      simp
def wkAt (ks : List Wk) (j : Nat) : Wk := match ks[j]? with
  | some k => k
  | none => ⟨0, 0, 0, 0, "", none, none, false, 0, none⟩
theorem wkAt_some {ks : List Wk} {j : Nat} {k : Wk} (h : ks[j]? = some k) : wkAt ks j = k := by
  unfold wkAt
  rw [h]
theorem onFrom_wk {ks : List Wk} : onFrom 0 ks = (onNums ks).map fun j => (j, wkAt ks j) := by
  have h := onFrom_nums 0 ks
  have h2 : onFrom 0 ks = (onFrom 0 ks).map fun x => (x.1, wkAt ks x.1) := by
    have : (onFrom 0 ks).map (fun x => (x.1, wkAt ks x.1)) = (onFrom 0 ks).map id := List.map_congr_left (fun x hx => by
      obtain ⟨_, h2, _⟩ := onFrom_mem 0 ks x.1 x.2 hx
      rw [Nat.sub_zero] at h2
      rw [wkAt_some h2]
      rfl)
    rw [this, List.map_id]
  rw [h2]
  have : (onFrom 0 ks).map (fun x => (x.1, wkAt ks x.1)) = ((onFrom 0 ks).map (·.1)).map fun j => (j, wkAt ks j) := by
    rw [List.map_map]
    rfl
  rw [this, h]
  simp
theorem goFrom_nums {ks : List Wk} : goFrom 0 ks = (onNums ks).map fun (j : Nat) => ((j : Int), (wkAt ks j).laid, (wkAt ks j).hand.isSome) := by
  rw [goFrom_on, onFrom_wk, List.map_map]
  rfl
theorem isOn_at {ks : List Wk} {n : Int} : isOn ks n = onAt ks n.toNat := rfl
theorem find_congr {α : Type} {p q : α → Bool} : ∀ {l : List α}, (∀ x ∈ l, p x = q x) → l.find? p = l.find? q
  | [], _ => rfl
  | a :: r, h => by
    rw [List.find?_cons, List.find?_cons, h a (by simp), find_congr (fun x hx => h x (by simp [hx]))]
theorem taker_nums {ks : List Wk} {p : Wk → Bool} (hp : ∀ k, p k = true → k.on = true) : ks.findIdx? p = ((onNums ks).filter fun j => p (wkAt ks j)).head? := by
  rw [List.head?_filter]
  have hfind : (onNums ks).find? (fun j => p (wkAt ks j)) = (List.range ks.length).find? (fun j => p (wkAt ks j)) := by
    unfold onNums
    rw [List.find?_filter]
    refine find_congr (fun j hj => ?_)
    have hj : j < ks.length := List.mem_range.mp hj
    have e : ks[j]? = some ks[j] := List.getElem?_eq_getElem hj
    rw [wkAt_some e]
    unfold onAt
    rw [e]
    cases h : p ks[j] with
    | false => simp
    | true => simp [hp _ h]
  rw [hfind]
  cases h : ks.findIdx? p with
  | none =>
    rw [List.findIdx?_eq_none_iff] at h
    symm
    rw [List.find?_eq_none]
    intro j hj
    have hj : j < ks.length := List.mem_range.mp hj
    have e : ks[j]? = some ks[j] := List.getElem?_eq_getElem hj
    rw [wkAt_some e]
    simp [h ks[j] (List.getElem_mem hj)]
  | some j =>
    rw [List.findIdx?_eq_some_iff_getElem] at h
    obtain ⟨hj, h1, h2⟩ := h
    symm
    rw [List.find?_range_eq_some]
    have e : ks[j]? = some ks[j] := List.getElem?_eq_getElem hj
    refine ⟨?_, List.mem_range.mpr hj, fun i hi => ?_⟩
    · rw [wkAt_some e]; exact h1
    · have hi' : i < ks.length := by omega
      have e' : ks[i]? = some ks[i] := List.getElem?_eq_getElem hi'
      rw [wkAt_some e']
      simpa using h2 i hi
structure LG where
  ev : List Int
  ever : Int
  laid : List (Int × Int × Int × Int)
  firsts : List (Option Int)
  pairs : List (Int × Int × Int × Int × Int)
  half : Int
def LG.start (g : LG) (ks : List Wk) (n : Nat) : LG := match ks[n]? with
  | none => g
  | some k => if k.on = true then g else { g with ev := g.ev.set n g.ever, ever := g.ever + 1 }
def LG.asks (g : LG) (b : Int) (ks : List Wk) : List (Int × Int) → LG
  | [] => g
  | x :: r => if x.1 = b then (g.start ks x.2.toNat).asks b (ks.modify x.2.toNat Wk.start) r else g.asks b ks r
def LG.dev (g : LG) (ks : List Wk) (took wanted : Bool) (ms : List Bool) (ws : List Int) (when : Int) : LG := match ks.findIdx? (takes ms wanted took) with
  | none => g
  | some j => match (wkAt ks j).hand with
    | none => g
    | some _ =>
      let g1 : LG := { g with laid := g.laid ++ [(g.ev.getD j 0, ((wkAt ks j).goal + (wkAt ks j).laid) % ws.length, when, (j : Int))] }
      if (wkAt ks j).laid + 1 < (wkAt ks j).many then g1 else match (wkAt ks j).follow with
        | none => g1
        | some f => g1.start (ks.set j ((wkAt ks j).move ws).1) f.toNat
def LG.touch (g : LG) (r : Row) (S : MS) (ws : List Int) (when : Int) : LG := match r with
  | .get _ _ => { g with half := when }
  | .getx _ _ => { g with half := when }
  | .pair _ a => if S.spent = 1 then { g with half := when, pairs := g.pairs ++ [(S.row, a % ws.length, g.half, (a + 1) % ws.length, when)] } else { g with half := when }
  | _ => g
def LG.eff (g : LG) (ks : List Wk) : Row → LG
  | .ask x => g.start ks x.toNat
  | _ => g
def LG.fin (g : LG) (row when : Int) : LG := match g.firsts[row.toNat]? with
  | some none => { g with firsts := g.firsts.set row.toNat (some when) }
  | _ => g
def LG.mst (g : LG) (prog : List Row) (S : MS) (ks : List Wk) (took : Bool) (ws : List Int) (when : Int) : LG := match prog[S.row.toNat]? with
  | none => g
  | some r => if r.isW = true ∧ took = true then g else
    let g1 := if r.isW = true then g.touch r S ws when else g
    if S.spent + 1 = r.beats then (g1.fin S.row when).eff ks r else g1
def LG.next (s : HS) (g : LG) : LG :=
  ((g.asks s.beats s.ks s.asks).dev (askAll s.beats s.ks s.asks) s.took (wantedOf s.prog s.S).isSome s.S.marks s.ws s.beats).mst s.prog s.S s.dm.1 s.dm.2.1 s.dm.2.2.1 s.beats
def HS.lafter (s : HS) (g : LG) : Nat → LG
  | 0 => g
  | n + 1 => LG.next (s.after n) (s.lafter g n)
def LG.none (n m : Nat) : LG := ⟨List.replicate n 0, 0, [], List.replicate m Option.none, [], 0⟩
end SB

set_option Elab.async false
set_option linter.all false
set_option maxRecDepth 100000
set_option maxHeartbeats 2000000
namespace SB
open PySem PySem.Spec PyProof.Rows L2 LamX
structure Lam1 (z : Str) (params : Arguments) (scope : Scope) : Prop where
  kind : scope.kind = .function
  names : scope.names = [(z, .local)]
  co : scope.isCoroutine = false
  gen : scope.isGenerator = false
  nodbg : (z == ("__debug__" : Str)) = false
  bind : ∀ (fd : FuncData) (v : Value), fd.params = params → fd.defaults = .none → fd.kwdefaults = .none → bindArgs fd ⟨[v], []⟩ = pure [(z, v)]
def Nw (H : Hp) (b : Addr) : Prop := ∀ o, H b = some o → ∃ ps, o = .tbl ps
def tSrtK (K : PySem.W.Frag) (P : Addr) (q fld : Str) (te : TA) : TE := fun σ H Q => te σ H fun vs H1 => ∃ (a : Addr) (ds : List (Addr × Int)), vs = [.ref a] ∧ SqL K H1 a (ds.map fun d => V.ref d.1) ∧ (∀ d ∈ ds, ∃ kvs, H1 d.1 = some (.dK kvs) ∧ valV kvs (.inr fld) = some (.int d.2)) ∧ TabS H1 P q ∧
  ∀ (H2 : Hp) (p : Addr) (ds' : List (Addr × Int)), ds'.Perm ds → ds'.Pairwise (fun x y => x.2 ≤ y.2) → ExtN H1 H2 → TabS H2 P q → Nw H1 p → H2 p = some (.lst (ds'.map fun d => V.ref d.1)) → Q (.ref p) H2
theorem vals_refs : ∀ {ds : List (Addr × Int)} {its : List Value}, Vals (ds.map fun d => V.ref d.1) its → PySem.W.EachIs (fun (v : Value) (x : Addr × Int) => v = .ref x.1) its ds
  | [], _, .nil => .nil
  | d :: r, _, .cons h t => .cons h (vals_refs t)
theorem refs_vals : ∀ {ds : List (Addr × Int)} {its : List Value}, PySem.W.EachIs (fun (v : Value) (x : Addr × Int) => v = .ref x.1) its ds → Vals (ds.map fun d => V.ref d.1) its
  | [], _, .nil => .nil
  | d :: r, _, .cons h t => .cons h (refs_vals t)
section
variable {X : Cx} {pins : List (Addr × Obj)} {σ : L2.St} {H : Hp} {s : Shared}
theorem lam_call {A : Around} {E : Value → Shared → Prop} {f c' d : Addr} {n : Int} {q z fld : Str} {params : Arguments} {scope : Scope} {cl : List (Str × Addr)} {pm ctv : Value} {pz ps pc : Pos} {j : Nat} {kvs : List (Key × V)} (I : Inv X pins σ H s) (L : Lam1 z params scope)
    (hf : s.heap.get? f = some (PySem.W.kla_obj "<lambda>" q params (.Subscript (.Name z pz) (.Constant (.str fld) j pc) ps) scope cl pm c' ctv)) (hc : H c' = some (CodeO c' q)) (hd : A.depth < recursionLimit) (he : H d = some (.dK kvs)) (hv : valV kvs (.inr fld) = some (.int n)) :
    wpAny (model X.prog X.w) A (call (.ref f) [.ref d]) (PySem.W.KeyPure (.int n) s) E s := by
  refine wpAny_call ?_
  obtain ⟨⟨oc, vs, t, hoc, hdc, hvc⟩, _, _⟩ := I.hok c' _ hc
  refine PySem.W.kla_callFunE hd hf rfl L.co L.gen rfl ⟨c', oc, vs, t, rfl, hoc, hdc, hvc⟩ ?_
  rw [L.bind _ _ rfl rfl rfl]
  refine wpAny_pure (wpAny_newFunctionEnv (fun y hy => ?_) (fun y hy => ?_) (fun h₁ hns hsb => ?_) L.kind)
  · have hy : y ∈ scope.names := hy
    rw [L.names] at hy
    have e : y = (z, NameKind.local) := by simpa using hy
    rw [e]
    intro zz
    cases zz
  · have e : y = (z, Value.ref d) := by simpa using hy
    rw [e]
    show scope.names.lookup z = _
    rw [L.names]
    simp [List.lookup]
  · have kp : ∀ b o, s.heap.get? b = some o → h₁.get? b = some o := fun b o e => hsb.extBut b o (Nat.ne_of_lt (Heap.lt_size e)) (Heap.get?_push_of_some _ e)
    have I1 : Inv X pins σ H { s with heap := h₁, toks := s.toks + [(z, Value.ref d)].length } := I.kept kp
    refine ⟨I1.nolimit, PySem.W.kla_codeExpr ?_⟩
    refine subD_of PySem.F.slot_dict_getitem.lookup (fun _ _ => rfl) (wpAny_Name (wpAny_loadName_local (m := fun x => [(z, Value.ref d)].reverse.lookup x) (v := .ref d) L.kind ?_ hns ?_ ?_) L.nodbg)
    · show scope.names.lookup z = _
      rw [L.names]
      simp [List.lookup]
    · simp [List.lookup]
    · refine Calls.Constant_str ?_
      have I2 := I1.tok (s.toks + [(z, Value.ref d)].length + 1)
      obtain ⟨_, _, us, rel, dd⟩ := dk_rd I2.hok (.inl he)
      obtain ⟨w', hw, rw'⟩ := RelO.some_of (v := .int n) (o := valueAt us (.inr fld)) (by rw [← hv]; exact rel.val _)
      obtain ⟨tk, rfl⟩ := rw'
      refine ⟨dd.typeIs, wpAny_getItem_of (kV_is (k := .inr fld) ⟨_, rfl⟩) dd.mapOf hw ?_⟩
      exact ⟨h₁, _, rfl, kp, .int n tk⟩
theorem pe_sortedLam {P c : Addr} {e : Expr} {te : TA} {z fld : Str} {params : Arguments} {scope : Scope} {p pz ps pc pl kp pos : Pos} {j k : Nat} (L : Lam1 z params scope) (TB : TabB X.base X.mg c P) (hcode : X.env.code = .ref c) (hr : Room (k + 2) X.A)
    (hg : Gl X "sorted") (hm : X.mg "sorted" = none) (ha : PA X [e] te) (hdef : defaultsOf params X.env = ([], []) := by rfl)
    (he : backTo pos (starEach [e] X.env) = (false, eval e X.env) :: backTo pos (starEach [] X.env) := by rfl) (hpl : (backTo pos (starEach [e] X.env)).any (·.1) = false := by rfl) :
    PE X (.Call (.Name "sorted" p) [e] [⟨some "key", .Lambda params (.Subscript (.Name z pz) (.Constant (.str fld) j pc) ps) scope pl, kp⟩] pos) (tSrtK X.K P (X.env.qual ++ "<lambda>") fld te) := by
  refine ⟨fun pins s σ H Q I h => ?_⟩
  refine wpAny_Call_Name_kw (ld_blt I hg hm (u := .builtin "sorted") (by decide +kernel) ?_ (by decide) (by decide))
  refine PyProof.Rows.callWith_kw (thn (ha.run pos pins s σ H _ I h) fun us s1 ⟨vs, H1, I1, r1, q1⟩ => ?_) he hpl (by rfl) (by rfl)
  obtain ⟨a, ds, rfl, hs, hds, hT, q⟩ := q1
  obtain rfl := Vals.ref1 r1
  show wpAny _ _ (evalAll ((do let v ← eval (.Lambda params (.Subscript (.Name z pz) (.Constant (.str fld) j pc) ps) scope pl) X.env; standAt pos; pure v) :: [])) _ _ s1
  refine wpAny_evalAll_cons (wpAny_bind ?_)
  refine lam_make2 (T := [(P, X.env.qual ++ "<lambda>")]) I1 TB hcode (by simp) (fun p hp _ => by
    have e : p = (P, X.env.qual ++ "<lambda>") := by simpa using hp
    rw [e]) (fun p hp => by
    have e : p = (P, X.env.qual ++ "<lambda>") := by simpa using hp
    rw [e]
    exact hT) hdef (fun y hy hfree => ?_) (fun f c' pm ctv H2 s2 I2 ext T2 hf nf _ hc => ?_)
  · rw [L.names] at hy
    have e : y = (z, NameKind.local) := by simpa using hy
    rw [e] at hfree
    cases hfree
  refine wpAny_bind (wpAny_standAt (wpAny_pure ?_))
  refine wpAny_evalAll_nil ?_
  show wpAny _ _ (call (.builtin "sorted") [.ref a] [(("key" : Str), .ref f)]) _ _ s2
  have hs2 : SqL X.K H2 a (ds.map fun d => V.ref d.1) := by
    rcases hs with (hs | ⟨o, hs⟩) | hs
    · exact .inl (.inl (ext _ _ hs (fun ps z => by cases z)))
    · exact .inl (.inr ⟨o, ext _ _ hs (fun ps z => by cases z)⟩)
    · exact .inr hs
  obtain ⟨its, rv, hl, hz⟩ := I2.list hs2
  rw [List.length_map] at hz
  refine PySem.W.sorted_key_data (R := fun (v : Value) (x : Addr × Int) => v = .ref x.1) (bs := ds) (vs := its) (f := .ref f) (b := false) (fun x => .int x.2) hl.isList (vals_refs rv) ?_ ?_ hz ?_ (PyProof.Rows.ksk_s1 _ _) (fun _ => PyProof.Rows.ksk_l1 _ _) (fun x => PyProof.Rows.ksk_t1 f x) ?_ ?_
  · intro d hd d' hd'
    obtain ⟨x, _, rfl⟩ := List.mem_map.mp hd
    obtain ⟨x', _, rfl⟩ := List.mem_map.mp hd'
    rfl
  · refine .inr fun d hd => ?_
    obtain ⟨x, _, rfl⟩ := List.mem_map.mp hd
    exact ⟨(fun z => by cases z), (fun xs z => by cases z)⟩
  · intro x hx
    have := hr.un
    show X.A.units + 2 + (PyData.int x.2).depth < cLine
    have e : (PyData.int x.2).depth = 0 ∨ (PyData.int x.2).depth = 1 := by first | exact .inl rfl | exact .inr rfl
    omega
  · intro v x ev hx h tk kp
    subst ev
    obtain ⟨kvs, hk, hv⟩ := hds x hx
    have I3 : Inv X pins σ H2 { s2 with heap := h, toks := tk } := I2.kept kp
    exact lam_call I3 L (kp _ _ hf) hc (by have := hr.in1.in1.depth; exact this) (ext _ _ hk (fun ps z => by cases z)) hv
  · intro out cc h' tk kp fresh hat hlen hE
    rw [PySem.W.dataLe_int] at hE
    have hperm : (ds.mergeSort fun a b => decide (a.2 ≤ b.2)).Perm ds := List.mergeSort_perm _ _
    have hpw : (ds.mergeSort fun a b => decide (a.2 ≤ b.2)).Pairwise (fun x y => x.2 ≤ y.2) := by
      have := List.pairwise_mergeSort (le := fun (a b : Addr × Int) => decide (a.2 ≤ b.2)) (fun a b c h1 h2 => by
        have h1 := of_decide_eq_true h1
        have h2 := of_decide_eq_true h2
        exact decide_eq_true (Int.le_trans h1 h2)) (fun a b => by
        by_cases h : a.2 ≤ b.2
        · simp [h]
        · have : b.2 ≤ a.2 := by omega
          simp [this]) ds
      exact this.imp (fun h => of_decide_eq_true h)
    have nL : H2 (s2.heap.objs.size + 1) = none := I2.hok.fresh (Nat.le_succ _)
    refine ⟨.ref _, upd H2 (s2.heap.objs.size + 1) (.lst ((ds.mergeSort fun a b => decide (a.2 ≤ b.2)).map fun d => V.ref d.1)), I2.laid (t' := tk) kp (Nat.le_succ _) ⟨?_, out, cc, refs_vals hE, hat⟩, rfl, q _ _ _ hperm hpw ?_ ?_ ?_ upd_same⟩
    · rw [List.length_map, hperm.length_eq]
      exact hz
    · exact fun b o e n => by
        have := ext b o e n
        rw [upd_ne (ne_of_none this nL)]
        exact this
    · refine (T2 (P, X.env.qual ++ "<lambda>") (by simp)).ext fun b o e => ?_
      rw [upd_ne (ne_of_none e nL)]
      exact e
    · intro o e
      cases o with
      | tbl ps => exact ⟨ps, rfl⟩
      | _ => rw [ext _ _ e (fun ps z => by cases z)] at nL; cases nL
end
end SB

set_option Elab.async false
set_option linter.all false
set_option maxRecDepth 100000
set_option maxHeartbeats 2000000
namespace SB
open PySem PySem.Spec PyProof.Rows L2
def rEqNil (K : PySem.W.Frag) : R2 := fun x y H Q => ∃ (a b : Addr) (xs : List V), x = .ref a ∧ SqL K H a xs ∧ y = .ref b ∧ SqL K H b [] ∧ Q (.bl xs.isEmpty) H
def rNeNil (K : PySem.W.Frag) : R2 := fun x y H Q => ∃ (a b : Addr) (xs : List V), x = .ref a ∧ SqL K H a xs ∧ y = .ref b ∧ SqL K H b [] ∧ Q (.bl (!xs.isEmpty)) H
section
variable {X : Cx}
theorem op_eqNil (hu : X.A.units + 64 < cLine) : OpR X (compareOp .Eq) (rEqNil X.K) := by
  intro pins s σ H x y v u Q I rx ry h
  obtain ⟨a, b, xs, rfl, ha, rfl, hb, q⟩ := h
  obtain rfl : v = Value.ref a := rx
  obtain rfl : u = Value.ref b := ry
  obtain ⟨its, rv, hl, hz⟩ := I.list ha
  obtain ⟨its2, rv2, hl2, hz2⟩ := I.list hb
  have e2 : its2 = [] := by cases rv2; rfl
  subst e2
  have hlen : xs.length = its.length := rv.length
  cases xs with
  | nil =>
    have e1 : its = [] := by cases rv; rfl
    subst e1
    exact (SeqAt.RcAt.lists (e := fun _ => true) hl.isList hl2.isList rfl (by omega) (fun j h1 h2 => by simp at h1)) X.prog X.w _ _ ⟨.bl _, H, I, rfl, q⟩
  | cons x r =>
    exact (SeqAt.RcAt.lists_lengths hl.isList hl2.isList (by rw [List.size_toArray, ← hlen]; simp) (by omega)) X.prog X.w _ _ ⟨.bl _, H, I, rfl, q⟩
theorem op_neNil (hu : X.A.units + 64 < cLine) : OpR X (compareOp .NotEq) (rNeNil X.K) := by
  intro pins s σ H x y v u Q I rx ry h
  obtain ⟨a, b, xs, rfl, ha, rfl, hb, q⟩ := h
  obtain rfl : v = Value.ref a := rx
  obtain rfl : u = Value.ref b := ry
  obtain ⟨its, rv, hl, hz⟩ := I.list ha
  obtain ⟨its2, rv2, hl2, hz2⟩ := I.list hb
  have e2 : its2 = [] := by cases rv2; rfl
  subst e2
  have hlen : xs.length = its.length := rv.length
  cases xs with
  | nil =>
    have e1 : its = [] := by cases rv; rfl
    subst e1
    exact (SeqAt.RcNeAt.lists (e := fun _ => true) hl.isList hl2.isList rfl (by omega) (fun j h1 h2 => by simp at h1)) X.prog X.w _ _ ⟨.bl _, H, I, rfl, q⟩
  | cons x r =>
    exact (SeqAt.RcNeAt.lists_lengths hl.isList hl2.isList (by rw [List.size_toArray, ← hlen]; simp) (by omega)) X.prog X.w _ _ ⟨.bl _, H, I, rfl, q⟩
end
end SB

set_option Elab.async false
set_option linter.all false
set_option maxRecDepth 100000
set_option maxHeartbeats 2000000
namespace SB
open PySem PySem.Spec PyProof.Rows L2 LamX
def NT (o : HO) : Prop := ∀ ps, o ≠ .tbl ps
def plainO : HO → Bool
  | .tbl _ => false | .ext _ => false | _ => true
theorem nt_or (o : HO) : NT o ∨ ∃ ps, o = .tbl ps := by
  cases o <;> first | exact .inr ⟨_, rfl⟩ | exact .inl (fun ps z => by cases z)
theorem plain_nt {o : HO} (h : plainO o = true) : NT o := fun ps z => by rw [z] at h; cases h
structure StT (F : List Addr) (H : Hp) (F' : List Addr) (H' : Hp) : Prop where
  kp : ∀ b o, H b = some o → b ∉ F → NT o → H' b = some o
  gr : ∀ b ∈ F', b ∈ F ∨ Nw H b
  fr : ∀ b o, H b = some o → NT o → ∃ o', H' b = some o' ∧ NT o'
section
variable {F F1 F2 G G' : List Addr} {H H1 H2 H' : Hp} {p b : Addr} {o : HO}
theorem Nw.none (h : H b = none) : Nw H b := fun o e => by rw [h] at e; cases e
theorem StT.refl (F : List Addr) (H : Hp) : StT F H F H := ⟨fun _ _ h _ _ => h, fun b h => .inl h, fun b o h n => ⟨o, h, n⟩⟩
theorem StT.nw (a : StT F H F1 H1) (h : Nw H1 b) : Nw H b := fun o e => by
  rcases nt_or o with n | n
  · obtain ⟨o', e', n'⟩ := a.fr b o e n
    obtain ⟨ps, z⟩ := h o' e'
    exact absurd z (n' ps)
  · exact n
theorem StT.trans (a : StT F H F1 H1) (c : StT F1 H1 F2 H2) : StT F H F2 H2 := by
  refine ⟨fun b o e n nt => c.kp b o (a.kp b o e n nt) (fun z => ?_) nt, fun b hb => ?_, fun b o e nt => ?_⟩
  · rcases a.gr b z with z | z
    · exact n z
    · obtain ⟨ps, e'⟩ := z o e
      exact nt ps e'
  · rcases c.gr b hb with z | z
    · exact a.gr b z
    · exact .inr (a.nw z)
  · obtain ⟨o', e', n'⟩ := a.fr b o e nt
    exact c.fr b o' e' n'
theorem StT.same (s : Same H H') : StT F H F H' := ⟨fun b o e _ _ => s _ _ e, fun b h => .inl h, fun b o e n => ⟨o, s _ _ e, n⟩⟩
theorem StT.ext (s : ExtN H H') : StT F H F H' := ⟨fun b o e _ n => s _ _ e n, fun b h => .inl h, fun b o e n => ⟨o, s _ _ e n, n⟩⟩
theorem StT.put (h : p ∈ F) (n : NT o) : StT F H F (upd H p o) := by
  refine ⟨fun b u e nb nt => ?_, fun b hb => .inl hb, fun b u e nt => ?_⟩
  · rw [upd_ne (fun z => nb (by rw [z]; exact h))]; exact e
  · by_cases hb : b = p
    · rw [hb]; exact ⟨o, upd_same, n⟩
    · exact ⟨u, by rw [upd_ne hb]; exact e, nt⟩
theorem StT.mono (a : StT F H F1 H1) (h : ∀ x ∈ F, x ∈ G) (h' : ∀ x ∈ G', x ∈ F1 ∨ x ∈ G ∨ Nw H x) : StT G H G' H1 := by
  refine ⟨fun b o e n nt => a.kp b o e (fun z => n (h b z)) nt, fun b hb => ?_, a.fr⟩
  rcases h' b hb with z | z | z
  · rcases a.gr b z with z | z
    · exact .inl (h b z)
    · exact .inr z
  · exact .inl z
  · exact .inr z
theorem TabS.put' {P x : Addr} {q : Str} {o0 : HO} (t : TabS H P q) (hx : H x = some o0) (pl : plainO o0 = true) : TabS (upd H x o) P q := by
  obtain ⟨ps, h1, h2, h3⟩ := t
  have ne1 : P ≠ x := fun z => by rw [z, hx] at h1; cases h1; cases pl
  refine ⟨ps, by rw [upd_ne ne1]; exact h1, h2, fun pos cv hc => ?_⟩
  obtain ⟨c, e1, e2⟩ := h3 pos cv hc
  have ne2 : c ≠ x := fun z => by
    rw [z, hx] at e2
    unfold CodeO at e2
    cases e2
    cases pl
  exact ⟨c, e1, by rw [upd_ne ne2]; exact e2⟩
theorem TabS.keep {P : Addr} {q : Str} (t : TabS H P q) (kp : Kept F H H') (hn : ∀ b ∈ F, ∃ u, H b = some u ∧ plainO u = true) : TabS H' P q := by
  obtain ⟨ps, h1, h2, h3⟩ := t
  have out : ∀ {b : Addr} {o : HO}, H b = some o → plainO o = false → H' b = some o := fun {b o} e pl => kp _ _ e (fun z => by
    obtain ⟨u, hu, pu⟩ := hn _ z
    rw [e] at hu
    cases hu
    rw [pl] at pu
    cases pu)
  refine ⟨ps, out h1 rfl, h2, fun pos cv hc => ?_⟩
  obtain ⟨c, e1, e2⟩ := h3 pos cv hc
  exact ⟨c, e1, out e2 rfl⟩
end
structure At (H : Hp) (xs : List (Addr × HO)) : Prop where
  at_ : ∀ y ∈ xs, H y.1 = some y.2
  nd : (xs.map (·.1)).Nodup
section
variable {H H' : Hp} {xs : List (Addr × HO)} {a : Addr} {o o' : HO}
theorem set_map1 {i : Nat} (e : xs[i]? = some (a, o)) : (xs.set i (a, o')).map (·.1) = xs.map (·.1) := by
  rw [List.map_set]
  show (xs.map (·.1)).set i a = _
  refine set_same ?_
  rw [List.getElem?_map, e]
  rfl
theorem At.put (h : At H xs) (i : Nat) (e : xs[i]? = some (a, o)) : At (upd H a o') (xs.set i (a, o')) := by
  refine ⟨fun y hy => ?_, by rw [set_map1 e]; exact h.nd⟩
  obtain ⟨j, hj⟩ := List.getElem?_of_mem hy
  rw [List.getElem?_set] at hj
  split at hj
  · split at hj
    · cases hj; exact upd_same
    · cases hj
  · rename_i hij
    have hy2 := List.mem_of_getElem? hj
    rw [upd_ne (fun z => ?_)]
    · exact h.at_ y hy2
    · have n1 : (xs.map (·.1))[i]? = some a := by rw [List.getElem?_map, e]; rfl
      have n2 : (xs.map (·.1))[j]? = some a := by rw [List.getElem?_map, hj, ← z]; rfl
      exact hij ((List.getElem?_inj (List.getElem?_eq_some_iff.mp n1).1 h.nd).mp (n1.trans n2.symm))
theorem At.same (h : At H xs) (s : Same H H') : At H' xs := ⟨fun y hy => s _ _ (h.at_ y hy), h.nd⟩
theorem At.get (h : At H xs) (i : Nat) (e : xs[i]? = some (a, o)) : H a = some o := h.at_ (a, o) (List.mem_of_getElem? e)
end
structure One where
  work : Int
  moved : Int
  hand : Option Int
  ever : Int
def oneK (x : One) : List (Key × V) := [(.inr "work", .int x.work), (.inr "moved", .int x.moved), (.inr "hand", oV x.hand), (.inr "ever", .int x.ever)]
theorem one_work (x : One) : valV (oneK x) (.inr ("work" : Str)) = some (V.int x.work) := by kernel_rfl
theorem one_moved (x : One) : valV (oneK x) (.inr ("moved" : Str)) = some (V.int x.moved) := by kernel_rfl
theorem one_hand (x : One) : valV (oneK x) (.inr ("hand" : Str)) = some (oV x.hand) := by kernel_rfl
theorem one_ever (x : One) : valV (oneK x) (.inr ("ever" : Str)) = some (V.int x.ever) := by kernel_rfl
theorem one_put_moved (x : One) (n : Int) : putK (oneK x) (.inr ("moved" : Str)) (V.int n) = oneK { x with moved := n } := by kernel_rfl
theorem one_put_handI (x : One) (n : Int) : putK (oneK x) (.inr ("hand" : Str)) (V.int n) = oneK { x with hand := some n } := by kernel_rfl
theorem one_put_handN (x : One) : putK (oneK x) (.inr ("hand" : Str)) V.non = oneK { x with hand := none } := by kernel_rfl
theorem one_made (n e : Int) : mergeK [] [((.inr ("work" : Str) : Key), V.int n), ((.inr ("moved" : Str) : Key), V.int 0), ((.inr ("hand" : Str) : Key), V.non), ((.inr ("ever" : Str) : Key), V.int e)] = oneK ⟨n, 0, none, e⟩ := by kernel_rfl
theorem one_len (x : One) : (oneK x).length = 4 := rfl
def oneAt (ks : List Wk) (ev : List Int) (j : Nat) : One := ⟨j, (wkAt ks j).laid, (wkAt ks j).hand, ev.getD j 0⟩
structure LA where
  rs : List Addr
  ts : List Addr
  qs : List Addr
  os : List (Addr × Nat)
  lp : List Addr
  pp : List Addr
def l4V (x : Int × Int × Int × Int) : List V := [.int x.1, .int x.2.1, .int x.2.2.1, .int x.2.2.2]
def p5V (x : Int × Int × Int × Int × Int) : List V := [.int x.1, .int x.2.1, .int x.2.2.1, .int x.2.2.2.1, .int x.2.2.2.2]
def Ls.ft (sd : Addr) (k : Ls) (a : LA) : List Addr := [sd, k.memory, k.cells, k.marks, k.firsts, k.pairs, k.laid, k.on, k.asks, k.works] ++ a.os.map (·.1)
def lsCs (sd : Addr) (k : Ls) (a : LA) (s : HS) (g : LG) : List (Addr × HO) :=
  [(sd, .dK (lsK k)), (k.memory, .lst (s.ws.map V.int)), (k.cells, .lst (s.S.cells.map V.int)), (k.marks, .lst (s.S.marks.map V.bl)), (k.firsts, .lst (g.firsts.map oV)), (k.pairs, .lst (a.pp.map V.ref)), (k.laid, .lst (a.lp.map V.ref)), (k.on, .lst (a.os.map fun x => V.ref x.1)), (k.asks, .lst (a.qs.map V.ref)), (k.works, .lst (a.ts.map V.ref))] ++ a.os.map fun x => (x.1, .dK (oneK (oneAt s.ks g.ev x.2)))
theorem lsCs_ft (sd : Addr) (k : Ls) (a : LA) (s : HS) (g : LG) : (lsCs sd k a s g).map (·.1) = Ls.ft sd k a := by
  unfold lsCs Ls.ft
  rw [List.map_append, List.map_map]
  rfl
structure TupsT (H : Hp) (ps : List Addr) (vss : List (List V)) : Prop where
  len : ps.length = vss.length
  at_ : ∀ (j : Nat) (p : Addr) (vs : List V), ps[j]? = some p → vss[j]? = some vs → H p = some (.tup vs)
def TuK (H H' : Hp) : Prop := ∀ b o, H b = some o → notTup o = false → H' b = some o
section
variable {K : PySem.W.Frag} {H H' H2 : Hp} {ps : List Addr} {vss : List (List V)}
theorem TuK.refl (H : Hp) : TuK H H := fun _ _ h _ => h
theorem TuK.trans (a : TuK H H') (b : TuK H' H2) : TuK H H2 := fun c o h n => b c o (a c o h n) n
theorem TuK.same (s : Same H H') : TuK H H' := fun b o h _ => s b o h
theorem TuK.ext (s : ExtN H H') : TuK H H' := fun b o h n => s b o h (fun ps z => by rw [z] at n; cases n)
theorem TuK.put {x : Addr} {o o0 : HO} (hx : H x = some o0) (n : notTup o0 = true) : TuK H (upd H x o) := fun b u e nu => by
  rw [upd_ne (fun z => by rw [z, hx] at e; cases e; rw [nu] at n; cases n)]
  exact e
theorem TuK.new {x : Addr} {o : HO} (hx : H x = none) : TuK H (upd H x o) := TuK.same (Same.new (Same.refl _) hx)
theorem TuK.tup (t : TuK H H') {a : Addr} {xs : List V} (h : SqT K H a xs) : SqT K H' a xs := by
  rcases h with (h | ⟨o, h⟩) | h
  · exact .inl (.inl (t _ _ h rfl))
  · exact .inl (.inr ⟨o, t _ _ h rfl⟩)
  · exact .inr h
theorem TuK.tk (t : TuK H H') : Tk H H' := fun b vs h => t _ _ h rfl
theorem TuK.prog (t : TuK H H') {pa : Addr} {rs : List Addr} {prog : List Row} (h : ProgAt K H pa rs prog) : ProgAt K H' pa rs prog := ⟨t.tup h.tup, h.len, fun j x r e1 e2 => t.tup (h.at_ j x r e1 e2)⟩
theorem TupsT.keep (h : TupsT H ps vss) (t : TuK H H') : TupsT H' ps vss := ⟨h.len, fun j p vs e1 e2 => t _ _ (h.at_ j p vs e1 e2) rfl⟩
theorem TupsT.at (h : TupsT H ps vss) {D : Addr} (hD : H D = some (.lst (ps.map V.ref))) : TupsAt H D ps vss := ⟨hD, h.len, h.at_⟩
theorem TupsAt.tt {D : Addr} (h : TupsAt H D ps vss) : TupsT H ps vss := ⟨h.len, h.at_⟩
theorem TupsT.snoc (h : TupsT H ps vss) (t : TuK H H') {p : Addr} {vs : List V} (hp : H' p = some (.tup vs)) : TupsT H' (ps ++ [p]) (vss ++ [vs]) := by
  refine ⟨by simp [h.len], fun j q us e1 e2 => ?_⟩
  by_cases hj : j < ps.length
  · rw [List.getElem?_append_left hj] at e1
    rw [List.getElem?_append_left (by rw [← h.len]; exact hj)] at e2
    exact t _ _ (h.at_ j q us e1 e2) rfl
  · have ej : j = ps.length := by
      have := (List.getElem?_eq_some_iff.mp e1).1
      rw [List.length_append] at this
      simp at this
      omega
    subst ej
    rw [List.getElem?_append_right (Nat.le_refl _), Nat.sub_self] at e1
    rw [List.getElem?_append_right (by rw [h.len]; exact Nat.le_refl _), h.len, Nat.sub_self] at e2
    have e5 : p = q := by simpa using e1
    have e6 : vs = us := by simpa using e2
    subst e5 e6
    exact hp
end
def tS (K : PySem.W.Frag) : Addr := (He.cT K ("_law_start", none)).2
def cS (K : PySem.W.Frag) : Addr := (He.cT K ("_law_start", none)).1
section
variable {K : PySem.W.Frag} {H H' : Hp} {sd : Addr} {k k' : Ls} {a : LA} {s s' : HS} {g g' : LG}
theorem lsCs_kind {y : Addr × HO} (hy : y ∈ lsCs sd k a s g) : notTup y.2 = true ∧ plainO y.2 = true := by
  rcases List.mem_append.mp hy with hy | hy
  · simp only [List.mem_cons, List.not_mem_nil, or_false] at hy
    rcases hy with rfl | rfl | rfl | rfl | rfl | rfl | rfl | rfl | rfl | rfl <;> exact ⟨rfl, rfl⟩
  · obtain ⟨x, _, rfl⟩ := List.mem_map.mp hy
    exact ⟨rfl, rfl⟩
def Ls.sa (k k' : Ls) : Prop := k'.program = k.program ∧ k'.works = k.works ∧ k'.memory = k.memory ∧ k'.asks = k.asks ∧ k'.cells = k.cells ∧ k'.marks = k.marks ∧ k'.on = k.on ∧ k'.firsts = k.firsts ∧ k'.pairs = k.pairs ∧ k'.laid = k.laid
theorem Ls.sa.ft (h : Ls.sa k k') : Ls.ft sd k' a = Ls.ft sd k a := by
  obtain ⟨h1, h2, h3, h4, h5, h6, h7, h8, h9, h10⟩ := h
  unfold Ls.ft
  rw [h2, h3, h4, h5, h6, h7, h8, h9, h10]
theorem nt_dK {x : List (Key × V)} : NT (.dK x) := fun ps z => by cases z
theorem nt_lst {x : List V} : NT (.lst x) := fun ps z => by cases z
theorem nt_tup {x : List V} : NT (.tup x) := fun ps z => by cases z
end
end SB

set_option Elab.async false
set_option linter.all false
set_option maxRecDepth 100000
set_option maxHeartbeats 2000000
namespace SB
open PySem PySem.Spec PyProof.Rows L2 LamX StX
theorem FunD.rC {P : Program} {w : World} {K : PySem.W.Frag} {mg : Str → Option Value} {base : Heap} {x qual : Str} {params : Arguments} {body : List Stmt} {scope : Scope} {f : Addr} {fd : FuncData} {N ps : List Str} {k : Nat} {sp : Sp} {p : He.Defn} (F : FunD K x qual params body scope [] [] f fd) (hf : f = He.fAd K p) (S : FnScope N ps scope)
    (hb : ∀ (kV doc pm : Value) (an : Option Addr) (cdv ct : Value) (us : List Value), us.length = ps.length → bindArgs (PySem.W.fnOf x qual params body scope .none kV doc pm an cdv ct) ⟨us, []⟩ = pure (ps.zip us))
    (len : ∀ vs H Q E, sp vs H Q E → vs.length = ps.length)
    (hbody : ∀ (A : Around) (outer : List Env) (s : Shared) (H : Hp) (vs : List V) (Q : VK) (E : XK), Room k (A.deeper (envOfC qual scope s.heap.objs.size f (.ref (He.codeOf K p)))) → sp vs H Q E →
      ∃ t, PSs (cxOf CX0 P w K mg base N qual scope f (.ref (He.codeOf K p)) A outer s H E).nox body t ∧ t { nx := fun _ H' => Q .non H', rt := Q } (start N vs) H) : FnR P w K mg base CX0 (k + 1) f sp := by
  have key : FnOk P w K mg base CX0 (k + 1) f fd ps sp := by
    obtain ⟨oc, od, dV, kV, doc, pm, an, cdv, ct, osl, e, lk, hcd, _, _⟩ := F.ex
    subst e
    obtain ⟨c, rfl⟩ := He.codeIn_ref hcd
    have ec : He.codeOf K p = c := He.codeOf_eq (by rw [← hf]; exact lk) rfl
    refine fn_of lk hcd S len fun A outer s H vs Q E hr hsp => ?_
    rw [← ec] at hr ⊢
    obtain ⟨t, h1, h2⟩ := hbody A outer s H vs Q E hr hsp
    exact ⟨t, h1.nox, h2⟩
  exact (key.raw (F.bindsN hb) .nil).imp (fun vs H Q E h => by rw [List.append_nil]; exact h)
theorem nums_start {ks : List Wk} {n : Nat} {k : Wk} (hk : ks[n]? = some k) (off : k.on = false) : ∀ j, j ∈ onNums (ks.modify n Wk.start) ↔ j ∈ onNums ks ∨ j = n := fun j => by
  rw [mem_onNums, mem_onNums, modify_set hk]
  unfold onAt
  by_cases e : j = n
  · subst e
    rw [gset_self hk]
    simp [Wk.start, off]
  · rw [gset_ne e]
    simp [e]
theorem start_onW {k : Wk} (h : k.on = true) : k.start = k := by
  unfold Wk.start
  rw [if_pos h]
theorem modify_on {ks : List Wk} {n : Nat} {k : Wk} (hk : ks[n]? = some k) (on : k.on = true) : ks.modify n Wk.start = ks := by
  rw [modify_set hk, start_onW on]
  exact set_same hk
theorem wkAt_start {ks : List Wk} {n : Nat} {k : Wk} (hk : ks[n]? = some k) (off : k.on = false) : wkAt (ks.modify n Wk.start) n = { k with on := true, laid := 0 } := by
  refine wkAt_some ?_
  rw [modify_set hk, gset_self hk]
  unfold Wk.start
  rw [if_neg (by rw [off]; decide)]
theorem wkAt_start_ne {ks : List Wk} {n j : Nat} {f : Wk → Wk} (h : j ≠ n) : wkAt (ks.modify n f) j = wkAt ks j := by
  unfold wkAt
  rw [List.getElem?_modify]
  cases ks[j]? with
  | none => rfl
  | some k =>
    show (if n = j then f k else k) = k
    rw [if_neg (fun z => h z.symm)]
section
variable {P : Program} {w : World} {K : PySem.W.Frag} {mg : Str → Option Value} {base : Heap} {H H' : Hp}
variable {sd : Addr} {k : Ls} {a : LA} {s : HS} {g : LG}
theorem vs_start {k : Wk} : k.start.vs = k.vs := by
  unfold Wk.start
  split <;> rfl
theorem map_modify_vs : ∀ {ks : List Wk} {n : Nat}, (ks.modify n Wk.start).map Wk.vs = ks.map Wk.vs
  | [], n => by cases n <;> rfl
  | k :: r, 0 => by show k.start.vs :: _ = _; rw [vs_start]; rfl
  | k :: r, n + 1 => by show k.vs :: (r.modify n Wk.start).map Wk.vs = _; rw [map_modify_vs (n := n)]; rfl
end
end SB

set_option Elab.async false
set_option linter.all false
set_option maxRecDepth 100000
set_option maxHeartbeats 2000000
namespace SB
open PySem PySem.Spec PyProof.Rows L2 LamX StX
theorem wanted_isW {prog : List Row} {S : MS} : (wantedOf prog S).isSome = (match prog[S.row.toNat]? with | some r => r.isW | none => false) := by
  unfold wantedOf
  cases prog[S.row.toNat]? with
  | none => rfl
  | some r => exact isW_word _ _
theorem viaTest' {tt : TT} {A B : TS} {D : Ends} {σ : L2.St} {H : Hp} {c : Bool} (h : ∀ Q : Bool → Hp → Prop, Q c H → tt σ H Q) (rest : if c = true then A D σ H else B D σ H) : tIfS tt A B D σ H := h _ rest
theorem og_work {H : Hp} {d : Addr} {X : One} (h : H d = some (.dK (oneK X))) : DGet H d (.str "work") (some (.int X.work)) := one_work X ▸ DGet.k (k := .inr "work") h
theorem og_moved {H : Hp} {d : Addr} {X : One} (h : H d = some (.dK (oneK X))) : DGet H d (.str "moved") (some (.int X.moved)) := one_moved X ▸ DGet.k (k := .inr "moved") h
theorem og_hand {H : Hp} {d : Addr} {X : One} (h : H d = some (.dK (oneK X))) : DGet H d (.str "hand") (some (oV X.hand)) := one_hand X ▸ DGet.k (k := .inr "hand") h
theorem og_ever {H : Hp} {d : Addr} {X : One} (h : H d = some (.dK (oneK X))) : DGet H d (.str "ever") (some (.int X.ever)) := one_ever X ▸ DGet.k (k := .inr "ever") h
theorem dec_oV {o : Option Int} : decide (oV o = V.non) = o.isNone := by cases o <;> rfl
section
variable {P : Program} {w : World} {K : PySem.W.Frag} {mg : Str → Option Value} {base : Heap} {H H' : Hp}
variable {sd : Addr} {k : Ls} {a : LA} {s : HS} {g : LG}
end
end SB

set_option Elab.async false
set_option linter.all false
set_option maxRecDepth 100000
set_option maxHeartbeats 4000000
namespace SB
open PySem PySem.Spec PyProof.Rows L2 LamX StX
structure WI (k : Wk) : Prop where
  off : k.on = false → k.hand = none
  lt : k.on = true → 0 ≤ k.laid ∧ k.laid < k.many
theorem onNums_set {ks : List Wk} {j : Nat} {kk kk' : Wk} (hk : ks[j]? = some kk) (e : kk'.on = kk.on) : onNums (ks.set j kk') = onNums ks := by
  refine rising_eq (onNums_lt _) (onNums_lt _) (fun i => ?_)
  rw [mem_onNums, mem_onNums]
  unfold onAt
  by_cases h : i = j
  · subst h
    rw [gset_self hk, hk]
    show kk'.on = true ↔ kk.on = true
    rw [e]
  · rw [gset_ne h]
theorem onNums_off {ks : List Wk} {j : Nat} {kk kk' : Wk} (hk : ks[j]? = some kk) (e : kk'.on = false) : onNums (ks.set j kk') = (onNums ks).filter fun i => decide (i ≠ j) := by
  refine rising_eq (onNums_lt _) ((onNums_lt _).filter _) (fun i => ?_)
  rw [List.mem_filter, mem_onNums, mem_onNums]
  unfold onAt
  by_cases h : i = j
  · subst h
    rw [gset_self hk]
    simp [e]
  · rw [gset_ne h]
    simp [h]
theorem wkAt_set {ks : List Wk} {j : Nat} {kk kk' : Wk} (hk : ks[j]? = some kk) : wkAt (ks.set j kk') j = kk' := wkAt_some (gset_self hk)
theorem wkAt_set_ne {ks : List Wk} {i j : Nat} {kk' : Wk} (h : i ≠ j) : wkAt (ks.set j kk') i = wkAt ks i := by
  unfold wkAt
  rw [gset_ne h]
theorem map_set_vs {ks : List Wk} {j : Nat} {kk kk' : Wk} (hk : ks[j]? = some kk) (e : kk'.vs = kk.vs) : (ks.set j kk').map Wk.vs = ks.map Wk.vs := by
  rw [List.map_set]
  refine set_same ?_
  rw [List.getElem?_map, hk, e]
  rfl
section
variable {P : Program} {w : World} {K : PySem.W.Frag} {mg : Str → Option Value} {base : Heap} {H H' : Hp}
variable {sd : Addr} {k : Ls} {a : LA} {s : HS} {g : LG}
end
end SB

set_option Elab.async false
set_option linter.all false
set_option maxRecDepth 100000
set_option maxHeartbeats 4000000
namespace SB
open PySem PySem.Spec PyProof.Rows L2 LamX StX
theorem viaIfX {tt : TT} {A B : TS} {D0 : Ends} {σ : L2.St} {H : Hp} (J : L2.St → Hp → Prop) (h : ∀ D : Ends, (∀ σ' H', J σ' H' → D.nx σ' H') → tIfS tt A B D σ H) (rest : ∀ σ' H', J σ' H' → D0.nx σ' H') : tIfS tt A B D0 σ H := h D0 rest
section
variable {P : Program} {w : World} {K : PySem.W.Frag} {mg : Str → Option Value} {base : Heap} {H H' : Hp}
theorem og_handI {H : Hp} {d : Addr} {n m e v : Int} (h : H d = some (.dK (oneK ⟨n, m, some v, e⟩))) : DGet H d (.str "hand") (some (.int v)) := og_hand h
def ND : List Str := ["_law_s", "_law_some", "_law_one", "_law_begin", "_law_goal", "_law_many", "_law_block", "_law_greed", "_law_mark", "_law_follow", "_law_place", "_law_told", "_law_other"]
end
end SB

set_option Elab.async false
set_option linter.all false
set_option maxRecDepth 100000
set_option maxHeartbeats 4000000
namespace SB
open PySem PySem.Spec PyProof.Rows L2 LamX StX
theorem lg_program {H : Hp} {sd : Addr} {k : Ls} (h : H sd = some (.dK (lsK k))) : DGet H sd (.str "program") (some (.ref k.program)) := ls_program k ▸ DGet.k (k := .inr "program") h
theorem lg_memory {H : Hp} {sd : Addr} {k : Ls} (h : H sd = some (.dK (lsK k))) : DGet H sd (.str "memory") (some (.ref k.memory)) := ls_memory k ▸ DGet.k (k := .inr "memory") h
theorem lg_cells {H : Hp} {sd : Addr} {k : Ls} (h : H sd = some (.dK (lsK k))) : DGet H sd (.str "cells") (some (.ref k.cells)) := ls_cells k ▸ DGet.k (k := .inr "cells") h
theorem lg_marks {H : Hp} {sd : Addr} {k : Ls} (h : H sd = some (.dK (lsK k))) : DGet H sd (.str "marks") (some (.ref k.marks)) := ls_marks k ▸ DGet.k (k := .inr "marks") h
theorem lg_pairs {H : Hp} {sd : Addr} {k : Ls} (h : H sd = some (.dK (lsK k))) : DGet H sd (.str "pairs") (some (.ref k.pairs)) := ls_pairs k ▸ DGet.k (k := .inr "pairs") h
theorem lg_firsts {H : Hp} {sd : Addr} {k : Ls} (h : H sd = some (.dK (lsK k))) : DGet H sd (.str "firsts") (some (.ref k.firsts)) := ls_firsts k ▸ DGet.k (k := .inr "firsts") h
theorem lg_on {H : Hp} {sd : Addr} {k : Ls} (h : H sd = some (.dK (lsK k))) : DGet H sd (.str "on") (some (.ref k.on)) := ls_on k ▸ DGet.k (k := .inr "on") h
theorem lg_asks {H : Hp} {sd : Addr} {k : Ls} (h : H sd = some (.dK (lsK k))) : DGet H sd (.str "asks") (some (.ref k.asks)) := ls_asks k ▸ DGet.k (k := .inr "asks") h
theorem lg_laid {H : Hp} {sd : Addr} {k : Ls} (h : H sd = some (.dK (lsK k))) : DGet H sd (.str "laid") (some (.ref k.laid)) := ls_laid k ▸ DGet.k (k := .inr "laid") h
theorem lg_row {H : Hp} {sd : Addr} {k : Ls} (h : H sd = some (.dK (lsK k))) : DGet H sd (.str "row") (some (.int k.row)) := ls_row k ▸ DGet.k (k := .inr "row") h
theorem lg_left {H : Hp} {sd : Addr} {k : Ls} (h : H sd = some (.dK (lsK k))) : DGet H sd (.str "left") (some (.int k.left)) := ls_left k ▸ DGet.k (k := .inr "left") h
theorem lg_time {H : Hp} {sd : Addr} {k : Ls} (h : H sd = some (.dK (lsK k))) : DGet H sd (.str "time") (some (.int k.time)) := ls_time k ▸ DGet.k (k := .inr "time") h
theorem lg_half {H : Hp} {sd : Addr} {k : Ls} (h : H sd = some (.dK (lsK k))) : DGet H sd (.str "half") (some (.int k.half)) := ls_half k ▸ DGet.k (k := .inr "half") h
theorem lg_ever {H : Hp} {sd : Addr} {k : Ls} (h : H sd = some (.dK (lsK k))) : DGet H sd (.str "ever") (some (.int k.ever)) := ls_ever k ▸ DGet.k (k := .inr "ever") h
theorem touch_put {g : LG} {r : Row} {S : MS} {ws : List Int} {n : Int} (h : r.isG = false) : g.touch r S ws n = g := by
  cases r <;> first | rfl | cases h
theorem touch_get {g : LG} {r : Row} {S : MS} {ws : List Int} {n : Int} (h : r.isG = true) (np : ¬ (r.nm = "pair" ∧ S.spent = 1)) : g.touch r S ws n = { g with half := n } := by
  cases r with
  | get a b => rfl
  | getx a b => rfl
  | pair a b =>
    show (if S.spent = 1 then _ else _) = _
    rw [if_neg (fun z => np ⟨by kernel_rfl, z⟩)]
  | _ => cases h
theorem touch_pair {g : LG} {r : Row} {S : MS} {ws : List Int} {n : Int} {r1 r2 : Int} (hp : r.nm = "pair") (h1 : S.spent = 1) (e : r.vs = [.str r.nm, .int r1, .int r2]) : g.touch r S ws n = { g with half := n, pairs := g.pairs ++ [(S.row, r2 % ws.length, g.half, (r2 + 1) % ws.length, n)] } := by
  cases r with
  | pair a b =>
    have e' : b = r2 := by
      have : ([.str "pair", .int a, .int b] : List V) = [.str _, .int r1, .int r2] := e
      simp only [List.cons.injEq, V.int.injEq, and_true] at this
      exact this.2.2
    subst e'
    show (if S.spent = 1 then _ else _) = _
    rw [if_pos h1]
  | _ => exact absurd hp (of_decide_eq_false (by kernel_rfl))
section
variable {P : Program} {w : World} {K : PySem.W.Frag} {mg : Str → Option Value} {base : Heap} {H H' : Hp}
end
end SB

set_option Elab.async false
set_option linter.all false
set_option maxRecDepth 100000
set_option maxHeartbeats 4000000
namespace SB
open PySem PySem.Spec PyProof.Rows L2 LamX StX
theorem reck_set {x y : Int} {c : List Int} {ks : List Wk} : reck "set" x y c ks = y := by unfold reck; rw [if_pos rfl]
theorem reck_add {x y : Int} {c : List Int} {ks : List Wk} : reck "add" x y c ks = (x + c.getD y.toNat 0) % 1000 := by unfold reck; rw [if_neg (by decide +kernel), if_neg (by decide +kernel), if_pos rfl]
theorem reck_less {x y : Int} {c : List Int} {ks : List Wk} : reck "less" x y c ks = if x < c.getD y.toNat 0 then 1 else 0 := by unfold reck; rw [if_neg (by decide +kernel), if_neg (by decide +kernel), if_neg (by decide +kernel)]
theorem reck_done {x y : Int} {c : List Int} {ks : List Wk} : reck "done" x y c ks = if isOn ks y = true then 0 else 1 := by unfold reck; rw [if_neg (by decide +kernel), if_pos rfl]
section
variable {P : Program} {w : World} {K : PySem.W.Frag} {mg : Str → Option Value} {base : Heap} {H H' : Hp}
end
end SB

set_option Elab.async false
set_option linter.all false
set_option maxRecDepth 100000
set_option maxHeartbeats 4000000
namespace SB
open PySem PySem.Spec PyProof.Rows L2 LamX StX
theorem useW_ge {z : Str} {p cl : Int} {c ws : List Int} (hc : ∀ x ∈ c, 0 ≤ x) (hw : ∀ x ∈ ws, 0 ≤ x) : (∀ x ∈ (useW z p cl c ws).1, 0 ≤ x) ∧ (∀ x ∈ (useW z p cl c ws).2.1, 0 ≤ x) := by
  have gd : ∀ {l : List Int} {i : Nat}, (∀ x ∈ l, 0 ≤ x) → 0 ≤ l.getD i 0 := fun {l i} h => by
    rw [List.getD]
    cases e : l[i]? with
    | none => exact Int.le_refl 0
    | some y => exact h y (List.mem_of_getElem? e)
  unfold useW
  split
  · exact ⟨fun x hx => (List.mem_or_eq_of_mem_set hx).elim (hc x) (fun e => e ▸ gd hw), hw⟩
  · exact ⟨hc, fun x hx => (List.mem_or_eq_of_mem_set hx).elim (hw x) (fun e => e ▸ gd hc)⟩
theorem at_eq {xs : List V} {n : Int} (h0 : 0 ≤ n) : atI xs n = xs[n.toNat]? := by
  unfold atI ixN
  rw [if_pos h0]
  by_cases h : n < xs.length
  · rw [if_pos h]
    rfl
  · rw [if_neg h]
    exact (List.getElem?_eq_none (by omega)).symm
theorem eff_sp {n : Nat} {S : MS} {ks : List Wk} {r : Row} : (eff n S ks r).1.spent = 0 := by cases r <;> rfl
theorem getD_ge {l : List Int} {i : Nat} (h : ∀ x ∈ l, 0 ≤ x) : 0 ≤ l.getD i 0 := by
  rw [List.getD]
  cases e : l[i]? with
  | none => exact Int.le_refl 0
  | some y => exact h y (List.mem_of_getElem? e)
theorem set_ge {l : List Int} {i : Nat} {v : Int} (h : ∀ x ∈ l, 0 ≤ x) (hv : 0 ≤ v) : ∀ x ∈ l.set i v, 0 ≤ x := fun x hx => (List.mem_or_eq_of_mem_set hx).elim (h x) (fun e => e ▸ hv)
theorem reck_ge {z : Str} {a b : Int} {c : List Int} {ks : List Wk} (hb : z = "set" → 0 ≤ b) : 0 ≤ reck z a b c ks := by
  unfold reck
  split
  · exact hb (by assumption)
  · split
    · split <;> decide
    · split
      · exact Int.emod_nonneg _ (by decide)
      · split <;> decide
theorem eff_ge {n : Nat} {S : MS} {ks : List Wk} {r : Row} (h : ∀ c ∈ S.cells, 0 ≤ c) (ok : r.okW n) : ∀ c ∈ (eff n S ks r).1.cells, 0 ≤ c := by
  cases r with
  | set a b => exact set_ge h (reck_ge fun _ => ok.2.1)
  | add a b => exact set_ge h (reck_ge fun z => absurd z (of_decide_eq_false (by kernel_rfl)))
  | less a b => exact set_ge h (reck_ge fun z => absurd z (of_decide_eq_false (by kernel_rfl)))
  | done a b => exact set_ge h (reck_ge fun z => absurd z (of_decide_eq_false (by kernel_rfl)))
  | _ => exact h
theorem tick_ge {n : Nat} {S : MS} {ks : List Wk} {r : Row} (h : ∀ c ∈ S.cells, 0 ≤ c) (ok : r.okW n) : ∀ c ∈ (tick n S ks r).1.cells, 0 ≤ c := by
  unfold tick
  split
  · exact eff_ge h ok
  · exact h
theorem mstep_ge {prog : List Row} {S : MS} {ks : List Wk} {took : Bool} {ws : List Int} (hp : ∀ r ∈ prog, r.okW prog.length) (hc : ∀ c ∈ S.cells, 0 ≤ c) (hw : ∀ x ∈ ws, 0 ≤ x) : (∀ c ∈ (mstep prog S ks took ws).1.cells, 0 ≤ c) ∧ ∀ x ∈ (mstep prog S ks took ws).2.2.1, 0 ≤ x := by
  unfold mstep
  cases e1 : prog[S.row.toNat]? with
  | none => exact ⟨hc, hw⟩
  | some r =>
    have rok := hp r (List.mem_of_getElem? e1)
    cases hwd : r.word S.spent S.cells with
    | none =>
      simp only [hwd]
      exact ⟨tick_ge hc rok, hw⟩
    | some zz =>
      obtain ⟨z, p, cl⟩ := zz
      simp only [hwd]
      split
      · exact ⟨hc, hw⟩
      · exact ⟨tick_ge (useW_ge hc hw).1 rok, (useW_ge hc hw).2⟩
structure KI (k : Wk) : Prop where
  wi : WI k
  mp : 0 < k.many
  h : ∀ x, k.hand = some x → 0 ≤ x
structure HI (s : HS) : Prop where
  o : HOk s
  k : ∀ k ∈ s.ks, KI k
  c : ∀ x ∈ s.S.cells, 0 ≤ x
  w : ∀ x ∈ s.ws, 0 ≤ x
theorem KI.start {k : Wk} (h : KI k) : KI k.start := by
  unfold Wk.start
  split
  · exact h
  · rename_i hn
    exact ⟨⟨(fun z => by cases z), (fun _ => ⟨Int.le_refl 0, h.mp⟩)⟩, h.mp, h.h⟩
theorem KI.move {k : Wk} {ws : List Int} (h : KI k) (on : k.on = true) (hw : ∀ x ∈ ws, 0 ≤ x) : KI (k.move ws).1 ∧ ∀ x ∈ (k.move ws).2.1, 0 ≤ x := by
  unfold Wk.move
  obtain ⟨l0, l1⟩ := h.wi.lt on
  cases hh : k.hand with
  | none =>
    refine ⟨⟨⟨fun z => ?_, fun z => ⟨l0, l1⟩⟩, h.mp, fun x hx => ?_⟩, hw⟩
    · have z : k.on = false := z
      rw [on] at z
      cases z
    · have hx := Option.some.inj hx
      rw [← hx]
      exact getD_ge hw
  | some v =>
    refine ⟨⟨⟨fun _ => rfl, fun z => ?_⟩, h.mp, (fun x hx => by cases hx)⟩, set_ge hw (h.h v hh)⟩
    have z : decide (k.laid + 1 < k.many) = true := z
    have z := of_decide_eq_true z
    exact ⟨by show 0 ≤ k.laid + 1; omega, z⟩
theorem askAll_ki {b : Int} : ∀ {as : List (Int × Int)} {ks : List Wk}, (∀ k ∈ ks, KI k) → ∀ k ∈ askAll b ks as, KI k
  | [], ks, h => h
  | a :: r, ks, h => by
    show ∀ k ∈ askAll b (askOne b ks a) r, KI k
    refine askAll_ki (fun k hk => ?_)
    unfold askOne at hk
    split at hk
    · exact all_modify (fun x hx => hx.start) h k hk
    · exact h k hk
theorem takes_on {ms : List Bool} {wanted took : Bool} {k : Wk} (h : takes ms wanted took k = true) : k.on = true := by
  unfold takes at h
  cases hk : k.on <;> simp_all
theorem devMove_ki {ks : List Wk} {took wanted : Bool} {ms : List Bool} {ws : List Int} (h : ∀ k ∈ ks, KI k) (hw : ∀ x ∈ ws, 0 ≤ x) : (∀ k ∈ (devMove ks took wanted ms ws).1, KI k) ∧ ∀ x ∈ (devMove ks took wanted ms ws).2.2.1, 0 ≤ x := by
  unfold devMove
  cases hf : ks.findIdx? (takes ms wanted took) with
  | none => exact ⟨h, hw⟩
  | some j =>
    cases hk : ks[j]? with
    | none => simp only [hk]; exact ⟨h, hw⟩
    | some k =>
      rw [List.findIdx?_eq_some_iff_getElem] at hf
      obtain ⟨hj, h1, _⟩ := hf
      have ek : ks[j] = k := by rw [List.getElem?_eq_getElem hj] at hk; exact Option.some.inj hk
      rw [ek] at h1
      have hk' := (h k (List.mem_of_getElem? hk)).move (takes_on h1) hw
      simp only [hk]
      refine ⟨?_, hk'.2⟩
      split
      · exact all_set h hk'.1
      · split
        · exact all_set h hk'.1
        · exact all_modify (fun x hx => hx.start) (all_set h hk'.1)
theorem eff_ki {m : Nat} {S : MS} {ks : List Wk} {r : Row} (h : ∀ k ∈ ks, KI k) : ∀ k ∈ (eff m S ks r).2, KI k := by
  cases r <;> first | exact h | exact all_modify (fun x hx => hx.start) h
theorem tick_ki {m : Nat} {S : MS} {ks : List Wk} {r : Row} (h : ∀ k ∈ ks, KI k) : ∀ k ∈ (tick m S ks r).2, KI k := by
  unfold tick
  split
  · exact eff_ki h
  · exact h
theorem mstep_ki {prog : List Row} {S : MS} {ks : List Wk} {took : Bool} {ws : List Int} (h : ∀ k ∈ ks, KI k) : ∀ k ∈ (mstep prog S ks took ws).2.1, KI k := by
  unfold mstep
  cases e1 : prog[S.row.toNat]? with
  | none => exact h
  | some r =>
    cases hwd : r.word S.spent S.cells with
    | none => simp only [hwd]; exact tick_ki h
    | some zz =>
      obtain ⟨z, p, cl⟩ := zz
      simp only [hwd]
      split
      · exact h
      · exact tick_ki h
theorem HI.next {s : HS} (h : HI s) : HI s.next := by
  have d := devMove_ki (took := s.took) (wanted := (wantedOf s.prog s.S).isSome) (ms := s.S.marks) (askAll_ki (b := s.beats) (as := s.asks) h.k) h.w
  have m := mstep_ge (prog := s.prog) (S := s.S) (ks := s.dm.1) (took := s.dm.2.1) (ws := s.dm.2.2.1) h.o.m.rows h.c d.2
  exact ⟨h.o.next, mstep_ki d.1, m.1, m.2⟩
theorem HI.after {s : HS} (h : HI s) : ∀ n, HI (s.after n)
  | 0 => h
  | n + 1 => (h.after n).next
theorem HI.asked {s : HS} (h : HI s) : HI { s with ks := askAll s.beats s.ks s.asks } :=
  ⟨⟨h.o.m, h.o.w0, askAll_ok h.o.k, h.o.a, h.o.a8, by show (askAll s.beats s.ks s.asks).length ≤ 6; rw [askAll_len]; exact h.o.l6⟩, askAll_ki h.k, h.c, h.w⟩
theorem devMove_took {ks : List Wk} {took wanted : Bool} {ms : List Bool} {ws : List Int} : (devMove ks took wanted ms ws).2.1 = (devMove ks took wanted ms ws).2.2.2.isSome := by
  unfold devMove
  cases ks.findIdx? (takes ms wanted took) with
  | none => rfl
  | some j =>
    cases hk : ks[j]? with
    | none => simp [hk]
    | some k => simp [hk]
theorem askAll_snoc {b : Int} {x : Int × Int} : ∀ {as : List (Int × Int)} {ks : List Wk}, askAll b ks (as ++ [x]) = askOne b (askAll b ks as) x
  | [], ks => rfl
  | a :: r, ks => by
    show askAll b (askOne b ks a) (r ++ [x]) = askOne b (askAll b (askOne b ks a) r) x
    exact askAll_snoc
theorem asks_snoc {b : Int} {x : Int × Int} : ∀ {as : List (Int × Int)} {ks : List Wk} {g : LG}, g.asks b ks (as ++ [x]) = if x.1 = b then (g.asks b ks as).start (askAll b ks as) x.2.toNat else g.asks b ks as
  | [], ks, g => by
    show (if x.1 = b then (g.start ks x.2.toNat).asks b (ks.modify x.2.toNat Wk.start) [] else g.asks b ks []) = _
    rfl
  | a :: r, ks, g => by
    show (if a.1 = b then (g.start ks a.2.toNat).asks b (ks.modify a.2.toNat Wk.start) (r ++ [x]) else g.asks b ks (r ++ [x])) = if x.1 = b then (if a.1 = b then (g.start ks a.2.toNat).asks b (ks.modify a.2.toNat Wk.start) r else g.asks b ks r).start (askAll b (askOne b ks a) r) x.2.toNat else (if a.1 = b then (g.start ks a.2.toNat).asks b (ks.modify a.2.toNat Wk.start) r else g.asks b ks r)
    by_cases h : a.1 = b
    · rw [if_pos h, if_pos h, asks_snoc]
      have e : askOne b ks a = ks.modify a.2.toNat Wk.start := by unfold askOne; rw [if_pos h]
      rw [e]
    · rw [if_neg h, if_neg h, asks_snoc]
      have e : askOne b ks a = ks := by unfold askOne; rw [if_neg h]
      rw [e]
theorem start_laid {g : LG} {ks : List Wk} {n : Nat} : (g.start ks n).laid = g.laid ∧ (g.start ks n).pairs = g.pairs ∧ (g.start ks n).firsts = g.firsts ∧ (g.start ks n).half = g.half := by
  unfold LG.start
  cases ks[n]? with
  | none => exact ⟨rfl, rfl, rfl, rfl⟩
  | some k =>
    show (if k.on = true then g else _).laid = _ ∧ (if k.on = true then g else _).pairs = _ ∧ (if k.on = true then g else _).firsts = _ ∧ (if k.on = true then g else _).half = _
    split <;> exact ⟨rfl, rfl, rfl, rfl⟩
theorem asks_laid {b : Int} : ∀ {as : List (Int × Int)} {ks : List Wk} {g : LG}, (g.asks b ks as).laid = g.laid ∧ (g.asks b ks as).pairs = g.pairs ∧ (g.asks b ks as).firsts = g.firsts ∧ (g.asks b ks as).half = g.half
  | [], ks, g => ⟨rfl, rfl, rfl, rfl⟩
  | a :: r, ks, g => by
    show (if a.1 = b then (g.start ks a.2.toNat).asks b (ks.modify a.2.toNat Wk.start) r else g.asks b ks r).laid = _ ∧ (if a.1 = b then (g.start ks a.2.toNat).asks b (ks.modify a.2.toNat Wk.start) r else g.asks b ks r).pairs = _ ∧ (if a.1 = b then (g.start ks a.2.toNat).asks b (ks.modify a.2.toNat Wk.start) r else g.asks b ks r).firsts = _ ∧ (if a.1 = b then (g.start ks a.2.toNat).asks b (ks.modify a.2.toNat Wk.start) r else g.asks b ks r).half = _
    split
    · obtain ⟨h1, h2, h3, h4⟩ := asks_laid (b := b) (as := r) (ks := ks.modify a.2.toNat Wk.start) (g := g.start ks a.2.toNat)
      obtain ⟨j1, j2, j3, j4⟩ := start_laid (g := g) (ks := ks) (n := a.2.toNat)
      exact ⟨h1.trans j1, h2.trans j2, h3.trans j3, h4.trans j4⟩
    · exact asks_laid
theorem dev_half {g : LG} {ks : List Wk} {took wanted : Bool} {ms : List Bool} {ws : List Int} {n : Int} : (g.dev ks took wanted ms ws n).half = g.half ∧ (g.dev ks took wanted ms ws n).pairs = g.pairs ∧ (g.dev ks took wanted ms ws n).firsts = g.firsts ∧ (g.dev ks took wanted ms ws n).laid.length ≤ g.laid.length + 1 := by
  unfold LG.dev
  cases ks.findIdx? (takes ms wanted took) with
  | none => exact ⟨rfl, rfl, rfl, by show g.laid.length ≤ _; omega⟩
  | some j =>
    dsimp only
    cases (wkAt ks j).hand with
    | none => exact ⟨rfl, rfl, rfl, by show g.laid.length ≤ _; omega⟩
    | some v =>
      dsimp only
      split
      · exact ⟨rfl, rfl, rfl, by show (g.laid ++ _).length ≤ _; rw [List.length_append]; exact Nat.le_refl _⟩
      · split
        · exact ⟨rfl, rfl, rfl, by show (g.laid ++ _).length ≤ _; rw [List.length_append]; exact Nat.le_refl _⟩
        · obtain ⟨j1, j2, j3, j4⟩ := start_laid (g := { g with laid := g.laid ++ [(g.ev.getD j 0, ((wkAt ks j).goal + (wkAt ks j).laid) % ws.length, n, (j : Int))] }) (ks := ks.set j ((wkAt ks j).move ws).1) (n := (_ : Int).toNat)
          exact ⟨j4, j2, j3, by rw [j1]; show (g.laid ++ _).length ≤ _; rw [List.length_append]; exact Nat.le_refl _⟩
end SB

set_option Elab.async false
set_option linter.all false
set_option maxRecDepth 100000
set_option maxHeartbeats 4000000
namespace SB
open PySem PySem.Spec PyProof.Rows L2 LamX StX
structure LsN (k : Ls) (s : HS) (g : LG) : Prop where
  row : k.row = s.S.row
  left : k.left = longOf s.prog s.S.row - s.S.spent
  time : k.time = s.beats
  ever : k.ever = g.ever
  took : k.took = s.took
  half : k.half = g.half
structure LsX (k k' : Ls) (a a' : LA) : Prop where
  program : k'.program = k.program
  works : k'.works = k.works
  memory : k'.memory = k.memory
  asks : k'.asks = k.asks
  firsts : k'.firsts = k.firsts
  laid : k'.laid = k.laid
  pairs : k'.pairs = k.pairs
  rs : a'.rs = a.rs
  ts : a'.ts = a.ts
  qs : a'.qs = a.qs
theorem LsX.refl (k : Ls) (a : LA) : LsX k k a a := ⟨rfl, rfl, rfl, rfl, rfl, rfl, rfl, rfl, rfl, rfl⟩
theorem LsX.trans {k k1 k2 : Ls} {a a1 a2 : LA} (x : LsX k k1 a a1) (y : LsX k1 k2 a1 a2) : LsX k k2 a a2 := ⟨y.program.trans x.program, y.works.trans x.works, y.memory.trans x.memory, y.asks.trans x.asks, y.firsts.trans x.firsts, y.laid.trans x.laid, y.pairs.trans x.pairs, y.rs.trans x.rs, y.ts.trans x.ts, y.qs.trans x.qs⟩
theorem viaTestN {tt : TT} {A B : TS} {D : Ends} {σ : L2.St} {H : Hp} {c : Bool} (h : ∀ Q : Bool → Hp → Prop, Q c H → tt σ H Q) (rest : if c = true then A D σ H else B D σ H) : tIfS tt A B D σ H := h _ rest
theorem viaAsgN {te : TE} {g : TG} {D0 : Ends} {σ : L2.St} {H : Hp} (J : L2.St → Hp → Prop) (h : ∀ D : Ends, (∀ σ' H', J σ' H' → D.nx σ' H') → tAsg te g D σ H) (rest : ∀ σ' H', J σ' H' → D0.nx σ' H') : tAsg te g D0 σ H := h D0 rest
theorem viaIfN {tt : TT} {A B : TS} {D0 : Ends} {σ : L2.St} {H : Hp} (J : L2.St → Hp → Prop) (h : ∀ D : Ends, (∀ σ' H', J σ' H' → D.nx σ' H') → tIfS tt A B D σ H) (rest : ∀ σ' H', J σ' H' → D0.nx σ' H') : tIfS tt A B D0 σ H := h D0 rest
theorem TAt.tuk {H H' : Hp} {v : V} {x : Option (Int × Str × Int × Int)} (h : TAt H v x) (k : TuK H H') : TAt H' v x := h.keep k.tk
theorem TAt.non {H : Hp} {v : V} {x : Option (Int × Str × Int × Int)} (h : TAt H v x) : (!decide (v = .non)) = x.isSome := by
  cases x with
  | none =>
    have h : v = .non := h
    rw [h]
    rfl
  | some z =>
    obtain ⟨z1, z2, z3, z4⟩ := z
    obtain ⟨p, e, _⟩ := h
    rw [e]
    rfl
section
variable {P : Program} {w : World} {K : PySem.W.Frag} {mg : Str → Option Value} {base : Heap} {H H' : Hp}
end
end SB

set_option Elab.async false
set_option linter.all false
set_option maxRecDepth 100000
set_option maxHeartbeats 4000000
namespace SB
open PySem PySem.Spec PyProof.Rows L2
section
variable {K : PySem.W.Frag} {H H' : Hp}
def rowD (s : HS) : PyData := if s.S.row = s.prog.length then .none else .int s.S.row
def goD (g : Int × Int × Bool) : PyData := .tuple [.int g.1, .int g.2.1, .bool g.2.2]
def dSh (s : HS) : PyData := .tuple [.int s.beats, rowD s, .list (pyInts s.S.cells), .list (pyInts s.ws), .list (s.S.marks.map .bool), .list ((goFrom 0 s.ks).map goD)]
theorem dp_bls : ∀ bs : List Bool, DpAll K H (bs.map V.bl) (bs.map PyData.bool)
  | [] => .nil
  | b :: r => .cons (.bl b) (dp_bls r)
theorem dp_row (s : HS) : Dp K H (rowV s) (rowD s) := by
  unfold rowV rowD
  split
  · exact .non
  · exact .int _
theorem ShownAt.dp {H0 : Hp} {p c w' k g : Addr} {ps : List Addr} {s : HS} (h : ShownAt H0 H p c w' k g ps s) : Dp K H (.ref p) (dSh s) := by
  refine .tup (SqT.of h.tup) (.cons (.int _) (.cons (dp_row s) (.cons (.lst (SqL.of h.hc) (dp_ints _)) (.cons (.lst (SqL.of h.hw) (dp_ints _)) (.cons (.lst (SqL.of h.hk) (dp_bls _)) (.cons (.lst (SqL.of h.hg.lst) (dpAll_of ps (goFrom 0 s.ks) (by rw [h.hg.len, List.length_map]) (fun j p e h1 h2 => ?_))) .nil))))))
  have h3 := h.hg.at_ j p (goV e) h1 (by rw [List.getElem?_map, h2]; rfl)
  exact .tup (SqT.of h3) (.cons (.int _) (.cons (.int _) (.cons (.bl _) .nil)))
theorem lay_bls : ∀ bs : List Bool, PyData.canLayAll0 (bs.map PyData.bool) = true
  | [] => rfl
  | b :: r => by
    show (true && PyData.canLayAll0 (r.map PyData.bool)) = true
    rw [lay_bls r]
    rfl
theorem deep_bls : ∀ bs : List Bool, PyData.depthAll (bs.map PyData.bool) = 0
  | [] => rfl
  | b :: r => by
    show max 0 (PyData.depthAll (r.map PyData.bool)) = 0
    rw [deep_bls r]
    rfl
def dRun (es : List BeatE) (s : HS) : PyData := .tuple [.list (es.map dE), dSh s]
theorem row_lay (s : HS) : PyData.canLay0 (rowD s) = true ∧ PyData.depth (rowD s) = 0 := by
  unfold rowD
  split <;> exact ⟨rfl, rfl⟩
theorem dRun_shaped {es : List BeatE} (s : HS) (h : ∀ e ∈ es, PyData.canLay0 (dE e) = true) : SeqAt.shaped (dRun es s) = true := by
  have h1 := lay_all es h
  have h2 := deep_all dE_deep es
  have g1 := lay_all (f := goD) (goFrom 0 s.ks) (fun x _ => rfl)
  have g2 := deep_all (f := goD) (n := 1) (fun x => Nat.le_refl _) (goFrom 0 s.ks)
  have r := row_lay s
  have c1 := canLay_ints s.S.cells
  have c2 := depth_ints s.S.cells
  have w1 := canLay_ints s.ws
  have w2 := depth_ints s.ws
  have b1 := lay_bls s.S.marks
  have b2 := deep_bls s.S.marks
  show ((PyData.canLayAll0 (es.map dE) && ((true && (PyData.canLay0 (rowD s) && (PyData.canLayAll0 (pyInts s.S.cells) && (PyData.canLayAll0 (pyInts s.ws) && (PyData.canLayAll0 (s.S.marks.map .bool) && (PyData.canLayAll0 ((goFrom 0 s.ks).map goD) && true)))))) && true)) && decide (max (PyData.depthAll (es.map dE) + 1) (max (max 0 (max (PyData.depth (rowD s)) (max (PyData.depthAll (pyInts s.S.cells) + 1) (max (PyData.depthAll (pyInts s.ws) + 1) (max (PyData.depthAll (s.S.marks.map .bool) + 1) (max (PyData.depthAll ((goFrom 0 s.ks).map goD) + 1) 0))))) + 1) 0) + 1 ≤ 64)) = true
  rw [h1, g1, r.1, c1, w1, b1, decide_eq_true (by omega)]
  rfl
theorem dRun_deep {es : List BeatE} (s : HS) : PyData.depth (dRun es s) ≤ 4 := by
  have h2 := deep_all dE_deep es
  have g2 := deep_all (f := goD) (n := 1) (fun x => Nat.le_refl _) (goFrom 0 s.ks)
  have r := row_lay s
  have c2 := depth_ints s.S.cells
  have w2 := depth_ints s.ws
  have b2 := deep_bls s.S.marks
  show max (PyData.depthAll (es.map dE) + 1) (max (max 0 (max (PyData.depth (rowD s)) (max (PyData.depthAll (pyInts s.S.cells) + 1) (max (PyData.depthAll (pyInts s.ws) + 1) (max (PyData.depthAll (s.S.marks.map .bool) + 1) (max (PyData.depthAll ((goFrom 0 s.ks).map goD) + 1) 0))))) + 1) 0) + 1 ≤ 4
  omega
end
end SB

set_option Elab.async false
set_option linter.all false
set_option maxRecDepth 100000
set_option maxHeartbeats 2000000
namespace SB
open PySem PySem.Spec PyProof.Rows L2 LamX
structure NW (H0 H : Hp) (xs : List (Addr × HO)) : Prop where
  same : Same H0 H
  at_ : ∀ y ∈ xs, H y.1 = some y.2
  nd : (xs.map (·.1)).Nodup
  new : ∀ y ∈ xs, H0 y.1 = none
theorem NW.nil (H : Hp) : NW H H [] := ⟨Same.refl _, by simp, by simp, by simp⟩
theorem NW.lay {H0 H : Hp} {xs : List (Addr × HO)} (h : NW H0 H xs) {p : Addr} {o : HO} (hp : H p = none) : NW H0 (upd H p o) ((p, o) :: xs) := by
  have ne : ∀ y ∈ xs, y.1 ≠ p := fun y hy => ne_of_none (h.at_ y hy) hp
  refine ⟨Same.new h.same (Same.free h.same hp), fun y hy => ?_, ?_, fun y hy => ?_⟩
  · rcases List.mem_cons.mp hy with rfl | hy
    · exact upd_same
    · rw [upd_ne (ne y hy)]
      exact h.at_ y hy
  · rw [List.map_cons, List.nodup_cons]
    refine ⟨fun hm => ?_, h.nd⟩
    obtain ⟨y, hy, e⟩ := List.mem_map.mp hm
    exact ne y hy e
  · rcases List.mem_cons.mp hy with rfl | hy
    · exact Same.free h.same hp
    · exact h.new y hy
theorem NW.go {H0 H H' : Hp} {xs : List (Addr × HO)} (h : NW H0 H xs) (s : Same H H') : NW H0 H' xs := ⟨h.same.trans s, fun y hy => s _ _ (h.at_ y hy), h.nd, h.new⟩
theorem NW.put {H0 H : Hp} {xs : List (Addr × HO)} (h : NW H0 H xs) (i : Nat) {a : Addr} {o : HO} (o' : HO) (e : xs[i]? = some (a, o)) : NW H0 (upd H a o') (xs.set i (a, o')) := by
  have hm := List.mem_of_getElem? e
  have mp : (xs.set i (a, o')).map (·.1) = xs.map (·.1) := by
    rw [List.map_set]
    show (xs.map (·.1)).set i a = _
    apply List.ext_getElem?
    intro j
    rw [List.getElem?_set]
    split
    · rename_i z
      subst z
      split
      · rw [List.getElem?_map, e]; rfl
      · rename_i z
        rw [List.getElem?_eq_none (by omega)]
    · rfl
  refine ⟨fun b u hb => ?_, fun y hy => ?_, by rw [mp]; exact h.nd, fun y hy => ?_⟩
  · have n := h.new _ hm
    rw [upd_ne (fun z => by rw [z] at hb; rw [hb] at n; cases n)]
    exact h.same _ _ hb
  · obtain ⟨j, hj⟩ := List.getElem?_of_mem hy
    rw [List.getElem?_set] at hj
    split at hj
    · split at hj
      · cases hj; exact upd_same
      · cases hj
    · rename_i hij
      have hy2 := List.mem_of_getElem? hj
      rw [upd_ne (fun z => ?_)]
      · exact h.at_ y hy2
      · have n1 : (xs.map (·.1))[i]? = some a := by rw [List.getElem?_map, e]; rfl
        have n2 : (xs.map (·.1))[j]? = some a := by rw [List.getElem?_map, hj, ← z]; rfl
        obtain ⟨hi, e1⟩ := List.getElem?_eq_some_iff.mp n1
        obtain ⟨hj', e2⟩ := List.getElem?_eq_some_iff.mp n2
        have f := List.pairwise_iff_getElem.mp h.nd
        rcases Nat.lt_trichotomy i j with hlt | heq | hgt
        · exact f i j hi hj' hlt (e1.trans e2.symm)
        · exact hij heq
        · exact f j i hj' hi hgt (e2.trans e1.symm)
  · have hy1 : y.1 ∈ (xs.set i (a, o')).map (·.1) := List.mem_map.mpr ⟨y, hy, rfl⟩
    rw [mp] at hy1
    obtain ⟨z, hz, ez⟩ := List.mem_map.mp hy1
    rw [← ez]
    exact h.new z hz
theorem NW.sub {H0 H : Hp} {xs ys : List (Addr × HO)} (h : NW H0 H xs) (s : ys.Sublist xs) : NW H0 H ys := ⟨h.same, fun y hy => h.at_ y (s.mem hy), List.Nodup.sublist (s.map _) h.nd, fun y hy => h.new y (s.mem hy)⟩
theorem ls_made2 (program : Addr) (works : Addr) (memory : Addr) (asks : Addr) (cells : Addr) (marks : Addr) (row : Int) (left : Int) (time : Int) (on : Addr) (ever : Int) (took : Bool) (firsts : Addr) (laid : Addr) (pairs : Addr) (half : Int) : mergeK (mergeK (mergeK [] [((.inr ("program" : Str) : Key), V.ref program), ((.inr ("works" : Str) : Key), V.ref works), ((.inr ("memory" : Str) : Key), V.ref memory), ((.inr ("asks" : Str) : Key), V.ref asks), ((.inr ("cells" : Str) : Key), V.ref cells)]) (mergeK [] [((.inr ("marks" : Str) : Key), V.ref marks), ((.inr ("row" : Str) : Key), V.int row), ((.inr ("left" : Str) : Key), V.int left), ((.inr ("time" : Str) : Key), V.int time), ((.inr ("on" : Str) : Key), V.ref on)])) (mergeK [] [((.inr ("ever" : Str) : Key), V.int ever), ((.inr ("took" : Str) : Key), V.bl took), ((.inr ("firsts" : Str) : Key), V.ref firsts), ((.inr ("laid" : Str) : Key), V.ref laid), ((.inr ("pairs" : Str) : Key), V.ref pairs), ((.inr ("half" : Str) : Key), V.int half)]) = lsK ⟨program, works, memory, asks, cells, marks, row, left, time, on, ever, took, firsts, laid, pairs, half⟩ := by kernel_rfl
section
variable {P : Program} {w : World} {K : PySem.W.Frag} {mg : Str → Option Value} {base : Heap} {H H' : Hp}
def lsNew (sd : Addr) (k : Ls) (mem asks : List V) (n : Nat) : List (Addr × HO) := [(k.pairs, .lst []), (k.laid, .lst []), (k.firsts, .lst (List.replicate n .non)), (k.on, .lst []), (k.marks, .lst [.bl false, .bl false, .bl false]), (k.cells, .lst [.int 0, .int 0, .int 0, .int 0]), (k.asks, .lst asks), (k.memory, .lst mem), (sd, .dK (lsK k))]
def sp_l_hall (K : PySem.W.Frag) : Sp := fun vs H Q _ => ∃ (pa wl ml al : Addr) (rs : List Addr) (prog : List Row) (mem asks : List V), vs = [.ref pa, .ref wl, .ref ml, .ref al] ∧ ProgAt K H pa rs prog ∧ prog.length ≤ 90 ∧ SqL K H ml mem ∧ SqL K H al asks ∧
  ∀ H' sd k, NW H H' (lsNew sd k mem asks prog.length) → k.program = pa → k.works = wl → k.row = 0 → k.left = longOf prog 0 → k.time = 0 → k.ever = 0 → k.took = false → k.half = 0 → Q (.ref sd) H'
theorem onNums_fresh (ks : List Wk) : onNums (ks.map Wk.fresh) = [] := by
  unfold onNums
  rw [List.filter_eq_nil_iff]
  intro j _
  unfold onAt
  rw [List.getElem?_map]
  cases ks[j]? with
  | none => simp
  | some k => simp [Wk.fresh]
theorem at0_hiW {prog : List Row} {ks : List Wk} {ws : List Int} {as : List (Int × Int)} (pok : ∀ r ∈ prog, r.okW prog.length) (k6 : ks.length ≤ 6) (wok : ∀ k ∈ ks, WOk ks.length k) (w4 : 4 ≤ ws.length) (hw : ∀ x ∈ ws, rg 0 999 x) (ao : AOk ks.length as) : HI (HS.at0 prog as ks ws) := by
  refine ⟨at0_okW pok k6 wok w4 ao, fun k hk => ?_, fun c hc => ?_, fun x hx => (hw x hx).1⟩
  · obtain ⟨k0, hk0, rfl⟩ := List.mem_map.mp hk
    have m := (wok k0 hk0).m.1
    exact ⟨⟨fun _ => rfl, fun z => by cases z⟩, by show 0 < k0.many; omega, fun x hx => by cases hx⟩
  · have hc : c ∈ [(0 : Int), 0, 0, 0] := hc
    simp at hc
    omega
theorem at0_hi {prog : List Row} {ks : List Wk} {ws : List Int} {as : List (Int × Int)} (pok : ∀ r ∈ prog, r.ok prog.length) (k6 : ks.length ≤ 6) (wok : ∀ k ∈ ks, WOk ks.length k) (w4 : 4 ≤ ws.length) (hw : ∀ x ∈ ws, rg 0 999 x) (ao : AOk ks.length as) : HI (HS.at0 prog as ks ws) := at0_hiW (fun r hr => (pok r hr).w) k6 wok w4 hw ao
theorem new_ft {sd wl : Addr} {k : Ls} {rs ts qs : List Addr} {mem asks : List V} {n : Nat} (N : NW H H' (lsNew sd k mem asks n)) : ∀ b ∈ Ls.ft sd k ⟨rs, ts, qs, [], [], []⟩, b ≠ k.works → H b = none := fun b hb hw => by
  have nw := N.new
  simp only [lsNew, List.mem_cons, List.not_mem_nil, or_false, forall_eq_or_imp, forall_eq] at nw
  obtain ⟨n1, n2, n3, n4, n5, n6, n7, n8, n9⟩ := nw
  unfold Ls.ft at hb
  rw [List.map_nil, List.append_nil] at hb
  simp only [List.mem_cons, List.not_mem_nil, or_false] at hb
  rcases hb with rfl | rfl | rfl | rfl | rfl | rfl | rfl | rfl | rfl | rfl
  · exact n9
  · exact n8
  · exact n6
  · exact n5
  · exact n3
  · exact n1
  · exact n2
  · exact n4
  · exact n7
  · exact absurd rfl hw
end
theorem beats_after (s : HS) : ∀ n, (s.after n).beats = s.beats + n
  | 0 => by show s.beats = s.beats + 0; omega
  | n + 1 => by
    show (s.after n).beats + 1 = _
    rw [beats_after s n]
    omega
theorem lafter_len (s : HS) (g : LG) : ∀ n, (s.lafter g n).laid.length ≤ g.laid.length + n ∧ (s.lafter g n).pairs.length ≤ g.pairs.length + n
  | 0 => ⟨Nat.le_refl _, Nat.le_refl _⟩
  | n + 1 => by
    obtain ⟨h1, h2⟩ := lafter_len s g n
    have step : ∀ (s : HS) (g : LG), (LG.next s g).laid.length ≤ g.laid.length + 1 ∧ (LG.next s g).pairs.length ≤ g.pairs.length + 1 := fun s g => by
      unfold LG.next
      have fa := asks_laid (b := s.beats) (as := s.asks) (ks := s.ks) (g := g)
      have fd := dev_half (g := g.asks s.beats s.ks s.asks) (ks := askAll s.beats s.ks s.asks) (took := s.took) (wanted := (wantedOf s.prog s.S).isSome) (ms := s.S.marks) (ws := s.ws) (n := s.beats)
      generalize (g.asks s.beats s.ks s.asks).dev (askAll s.beats s.ks s.asks) s.took (wantedOf s.prog s.S).isSome s.S.marks s.ws s.beats = g2 at fd
      have eL : ∀ g1 : LG, ∀ r ks row when, ((g1.fin row when).eff ks r).laid = g1.laid ∧ ((g1.fin row when).eff ks r).pairs = g1.pairs := fun g1 r ks row when => by
        have e1 : (g1.fin row when).laid = g1.laid ∧ (g1.fin row when).pairs = g1.pairs := by
          unfold LG.fin
          split <;> exact ⟨rfl, rfl⟩
        cases r <;> first | exact e1 | (obtain ⟨j1, j2, _⟩ := start_laid (g := g1.fin row when) (ks := ks) (n := (_ : Int).toNat); exact ⟨j1.trans e1.1, j2.trans e1.2⟩)
      have tL : ∀ (r : Row) (S : MS) (ws : List Int) (when : Int), (g2.touch r S ws when).laid = g2.laid ∧ (g2.touch r S ws when).pairs.length ≤ g2.pairs.length + 1 := fun r S ws when => by
        cases r with
        | pair a b =>
          show (if S.spent = 1 then _ else _ : LG).laid = _ ∧ (if S.spent = 1 then _ else _ : LG).pairs.length ≤ _
          split
          · exact ⟨rfl, by show (g2.pairs ++ _).length ≤ _; rw [List.length_append]; exact Nat.le_refl _⟩
          · exact ⟨rfl, Nat.le_succ _⟩
        | _ => exact ⟨rfl, Nat.le_succ _⟩
      unfold LG.mst
      cases s.prog[s.S.row.toNat]? with
      | none =>
        refine ⟨?_, ?_⟩
        · show g2.laid.length ≤ _; have := fd.2.2.2; rw [fa.1] at this; exact this
        · show g2.pairs.length ≤ _; rw [fd.2.1, fa.2.1]; exact Nat.le_succ _
      | some r =>
        dsimp only
        have l2 : g2.laid.length ≤ g.laid.length + 1 := by have := fd.2.2.2; rw [fa.1] at this; exact this
        have p2 : g2.pairs.length = g.pairs.length := by rw [fd.2.1, fa.2.1]
        split
        · exact ⟨l2, by rw [p2]; exact Nat.le_succ _⟩
        · have t := tL r s.S s.dm.2.2.1 s.beats
          split
          · rw [(eL _ _ _ _ _).1, (eL _ _ _ _ _).2]
            split
            · exact ⟨by rw [t.1]; exact l2, by have := t.2; omega⟩
            · exact ⟨l2, by rw [p2]; exact Nat.le_succ _⟩
          · split
            · exact ⟨by rw [t.1]; exact l2, by have := t.2; omega⟩
            · exact ⟨l2, by rw [p2]; exact Nat.le_succ _⟩
    have h3 := step (s.after n) (s.lafter g n)
    show (LG.next (s.after n) (s.lafter g n)).laid.length ≤ _ ∧ (LG.next (s.after n) (s.lafter g n)).pairs.length ≤ _
    omega
end SB

set_option Elab.async false
set_option linter.all false
set_option maxRecDepth 100000
set_option maxHeartbeats 4000000
namespace SB
open PySem L2
theorem next_prog {s : HS} : s.next.prog = s.prog := rfl
theorem after_prog (s : HS) : ∀ n, (s.after n).prog = s.prog
  | 0 => rfl
  | n + 1 => after_prog s n
theorem start_firsts {g : LG} {ks : List Wk} {n : Nat} : (g.start ks n).firsts = g.firsts := start_laid.2.2.1
theorem eff_firsts {g : LG} {ks : List Wk} {r : Row} : (g.eff ks r).firsts = g.firsts := by
  cases r <;> first | rfl | exact start_firsts
theorem touch_firsts {g : LG} {r : Row} {S : MS} {ws : List Int} {n : Int} : (g.touch r S ws n).firsts = g.firsts := by
  cases r with
  | pair a b => show (if _ then _ else _ : LG).firsts = _; split <;> rfl
  | _ => rfl
def doneOf (x : MS × List Wk × List Int × MT) : Bool := match x.2.2.2 with
  | .waits => false
  | .ends => false
  | _ => decide (x.1.spent = 0)
theorem doneB_of (s : HS) : s.doneB = doneOf s.ms := rfl
theorem tick_sp {s : HS} {r : Row} (sp0 : 0 ≤ s.S.spent) (c : List Int) (ks : List Wk) : decide ((tick s.prog.length { s.S with cells := c, spent := s.S.spent + 1 } ks r).1.spent = 0) = decide (s.S.spent + 1 = r.beats) := by
  unfold tick
  dsimp only
  by_cases h : s.S.spent + 1 = r.beats
  · rw [if_pos h, eff_sp, decide_eq_true h]
    rfl
  · rw [if_neg h, decide_eq_false h]
    exact decide_eq_false (by show ¬ s.S.spent + 1 = 0; omega)
theorem doneB_none {s : HS} (hr : s.prog[s.S.row.toNat]? = none) : s.doneB = false := by
  have e : s.ms = (s.S, s.dm.1, s.dm.2.2.1, .ends) := by
    unfold HS.ms mstep
    simp only [hr]
  rw [doneB_of, e]
  rfl
theorem doneB_some {s : HS} {r : Row} (O : HOk s) (hr : s.prog[s.S.row.toNat]? = some r) : s.doneB = (!(r.isW && s.dm.2.1) && decide (s.S.spent + 1 = r.beats)) := by
  have sp0 := O.m.sp0
  have hw := isW_word (r := r) s.S.spent s.S.cells
  rw [doneB_of]
  cases hwd : r.word s.S.spent s.S.cells with
  | none =>
    rw [hwd] at hw
    have hw : false = r.isW := hw
    have e : s.ms = ((tick s.prog.length { s.S with spent := s.S.spent + 1 } s.dm.1 r).1, (tick s.prog.length { s.S with spent := s.S.spent + 1 } s.dm.1 r).2, s.dm.2.2.1, .goes) := by
      unfold HS.ms mstep
      simp only [hr, hwd]
    rw [e, ← hw]
    exact tick_sp sp0 s.S.cells _
  | some zz =>
    obtain ⟨z, p, cl⟩ := zz
    rw [hwd] at hw
    have hw : true = r.isW := hw
    cases ht : s.dm.2.1 with
    | true =>
      have e : s.ms = (s.S, s.dm.1, s.dm.2.2.1, .waits) := by
        unfold HS.ms mstep
        simp only [hr, hwd, ht, if_true]
      rw [e, ← hw]
      rfl
    | false =>
      have e : ∃ a b c d e, s.ms = ((tick s.prog.length { s.S with cells := (useW z p cl s.S.cells s.dm.2.2.1).1, spent := s.S.spent + 1 } s.dm.1 r).1, a, b, .word c d e) := by
        unfold HS.ms mstep
        simp only [hr, hwd, ht]
        exact ⟨_, _, _, _, _, rfl⟩
      obtain ⟨x1, x2, x3, x4, x5, e⟩ := e
      rw [e, ← hw]
      exact tick_sp sp0 _ _
theorem next_firsts {s : HS} {g : LG} (O : HOk s) : (LG.next s g).firsts = if s.doneB = true then (g.fin s.S.row s.beats).firsts else g.firsts := by
  unfold LG.next
  have fa := (asks_laid (b := s.beats) (as := s.asks) (ks := s.ks) (g := g)).2.2.1
  have fd := (dev_half (g := g.asks s.beats s.ks s.asks) (ks := askAll s.beats s.ks s.asks) (took := s.took) (wanted := (wantedOf s.prog s.S).isSome) (ms := s.S.marks) (ws := s.ws) (n := s.beats)).2.2.1
  have e2 := fd.trans fa
  generalize (g.asks s.beats s.ks s.asks).dev (askAll s.beats s.ks s.asks) s.took (wantedOf s.prog s.S).isSome s.S.marks s.ws s.beats = g2 at e2
  have fin_eq : ∀ g1 : LG, g1.firsts = g.firsts → (g1.fin s.S.row s.beats).firsts = (g.fin s.S.row s.beats).firsts := fun g1 e => by
    unfold LG.fin
    rw [e]
    split
    · rfl
    · exact e
  cases hr : s.prog[s.S.row.toNat]? with
  | none =>
    have em : g2.mst s.prog s.S s.dm.1 s.dm.2.1 s.dm.2.2.1 s.beats = g2 := by
      unfold LG.mst
      simp only [hr]
    rw [em, doneB_none hr]
    exact e2
  | some r =>
    have em : g2.mst s.prog s.S s.dm.1 s.dm.2.1 s.dm.2.2.1 s.beats = if r.isW = true ∧ s.dm.2.1 = true then g2 else
        if s.S.spent + 1 = r.beats then ((if r.isW = true then g2.touch r s.S s.dm.2.2.1 s.beats else g2).fin s.S.row s.beats).eff s.dm.1 r else (if r.isW = true then g2.touch r s.S s.dm.2.2.1 s.beats else g2) := by
      unfold LG.mst
      simp only [hr]
    rw [em, doneB_some O hr]
    by_cases hw : r.isW = true ∧ s.dm.2.1 = true
    · rw [if_pos hw, hw.1, hw.2]
      exact e2
    · have hw' : (r.isW && s.dm.2.1) = false := by
        cases h1 : r.isW <;> cases h2 : s.dm.2.1 <;> simp_all
      rw [if_neg hw, hw']
      have e3 : (if r.isW = true then g2.touch r s.S s.dm.2.2.1 s.beats else g2).firsts = g.firsts := by
        split
        · rw [touch_firsts]; exact e2
        · exact e2
      by_cases h : s.S.spent + 1 = r.beats
      · rw [if_pos h, decide_eq_true h, eff_firsts]
        exact fin_eq _ e3
      · rw [if_neg h, decide_eq_false h]
        exact e3
theorem lafter_firsts {s : HS} {g : LG} (O : HOk s) (hl : g.firsts.length = s.prog.length) (h0 : ∀ j : Nat, j < s.prog.length → g.firsts[j]? = some none) : ∀ n : Nat, (s.lafter g n).firsts.length = s.prog.length ∧ ∀ j : Nat, j < s.prog.length → (s.lafter g n).firsts[j]? = some (dnN s n (j : Int))
  | 0 => ⟨hl, fun j hj => h0 j hj⟩
  | n + 1 => by
    obtain ⟨i1, i2⟩ := lafter_firsts O hl h0 n
    have On := O.after n
    have e := next_firsts (g := s.lafter g n) On
    have row0 := On.m.row0
    show (LG.next (s.after n) (s.lafter g n)).firsts.length = _ ∧ ∀ j : Nat, j < s.prog.length → (LG.next (s.after n) (s.lafter g n)).firsts[j]? = some (dnext (s.after n) (dnN s n) (j : Int))
    rw [e]
    cases hd : (s.after n).doneB with
    | false =>
      refine ⟨i1, fun j hj => ?_⟩
      show (s.lafter g n).firsts[j]? = _
      rw [i2 j hj]
      unfold dnext
      rw [hd, if_neg (fun z => by cases z.1)]
    | true =>
      show ((s.lafter g n).fin (s.after n).S.row (s.after n).beats).firsts.length = _ ∧ ∀ j : Nat, j < s.prog.length → ((s.lafter g n).fin (s.after n).S.row (s.after n).beats).firsts[j]? = _
      have key : ∀ j : Nat, j < s.prog.length → dnext (s.after n) (dnN s n) (j : Int) = if (s.after n).S.row.toNat = j then (match dnN s n (j : Int) with | none => some (s.after n).beats | some x => some x) else dnN s n (j : Int) := fun j hj => by
        unfold dnext
        rw [hd]
        by_cases h : (s.after n).S.row.toNat = j
        · rw [if_pos ⟨rfl, by omega⟩, if_pos h]
          try rfl
        · rw [if_neg (fun z => h (by have := z.2; omega)), if_neg h]
      unfold LG.fin
      cases hf : (s.lafter g n).firsts[(s.after n).S.row.toNat]? with
      | none =>
        refine ⟨i1, fun j hj => ?_⟩
        show (s.lafter g n).firsts[j]? = _
        rw [i2 j hj, key j hj, if_neg (fun z => ?_)]
        rw [z, i2 j hj] at hf
        cases hf
      | some o =>
        cases o with
        | some y =>
          refine ⟨i1, fun j hj => ?_⟩
          show (s.lafter g n).firsts[j]? = _
          rw [i2 j hj, key j hj]
          by_cases z : (s.after n).S.row.toNat = j
          · rw [if_pos z]
            rw [z, i2 j hj] at hf
            have hf := Option.some.inj hf
            rw [hf]
          · rw [if_neg z]
        | none =>
          refine ⟨by show ((s.lafter g n).firsts.set _ _).length = _; rw [List.length_set]; exact i1, fun j hj => ?_⟩
          show ((s.lafter g n).firsts.set _ _)[j]? = _
          rw [key j hj]
          by_cases z : (s.after n).S.row.toNat = j
          · rw [if_pos z]
            rw [z] at hf ⊢
            rw [gset_self hf]
            rw [i2 j hj] at hf
            have hf := Option.some.inj hf
            rw [hf]
          · rw [if_neg z, gset_ne (fun y => z y.symm)]
            exact i2 j hj
theorem firsts_all {prog : List Row} {as : List (Int × Int)} {ks : List Wk} {ws : List Int} (O : HOk (HS.at0 prog as ks ws)) (n : Nat) : ((HS.at0 prog as ks ws).lafter (LG.none ks.length prog.length) n).firsts = (List.range prog.length).map fun (i : Nat) => dnN (HS.at0 prog as ks ws) n (i : Int) := by
  obtain ⟨h1, h2⟩ := lafter_firsts (g := LG.none ks.length prog.length) O (by show (List.replicate prog.length Option.none).length = prog.length; rw [List.length_replicate]) (fun j hj => by
    show (List.replicate prog.length Option.none)[j]? = _
    have hj : j < prog.length := hj
    rw [List.getElem?_replicate, if_pos hj]) n
  have h1 : ((HS.at0 prog as ks ws).lafter (LG.none ks.length prog.length) n).firsts.length = prog.length := h1
  refine List.ext_getElem? (fun j => ?_)
  by_cases hj : j < prog.length
  · rw [h2 j hj, List.getElem?_map, List.getElem?_range hj]
    rfl
  · rw [List.getElem?_eq_none (by omega), List.getElem?_eq_none (by rw [List.length_map, List.length_range]; omega)]
end SB

set_option Elab.async false
set_option linter.all false
set_option maxRecDepth 100000
set_option maxHeartbeats 4000000
namespace SB
open PySem L2
abbrev Ld := Int × Int × Int × Int
def laidBy (g : LG) (i : Nat) : List Ld := g.laid.filter fun x => decide (x.1 = (i : Int))
structure Co (ks : List Wk) (g : LG) (h : GH) : Prop where
  ok : GOk ks h
  ever : g.ever = (h.G.length : Int)
  evl : g.ev.length = ks.length
  cur : ∀ (j i : Nat), h.cur[j]? = some (some i) → g.ev[j]? = some (i : Int)
  pu : ∀ (i : Nat) (e : Go), h.G[i]? = some e → e.pu = (laidBy g i).map fun x => (x.2.2.1, x.2.1)
  wk : ∀ x ∈ g.laid, ∃ (i : Nat) (e : Go), x.1 = (i : Int) ∧ h.G[i]? = some e ∧ x.2.2.2 = (e.n : Int)
  nc : ∀ (i : Nat) (e : Go), h.G[i]? = some e → ∃ k, ks[e.n]? = some k ∧ (h.cur[e.n]? = some (some i) ∨ (e.pu.length : Int) = k.many)
  mx : ∀ (i i' j : Nat) (e : Go), h.G[i']? = some e → e.n = j → h.cur[j]? = some (some i) → i' ≤ i
  so : g.laid.Pairwise fun x y => x.2.2.2 = y.2.2.2 → x.1 ≤ y.1
theorem Co.congr {ks : List Wk} {g g' : LG} {h : GH} (c : Co ks g h) (e1 : g'.ev = g.ev) (e2 : g'.ever = g.ever) (e3 : g'.laid = g.laid) : Co ks g' h := by
  refine ⟨c.ok, by rw [e2]; exact c.ever, by rw [e1]; exact c.evl, by rw [e1]; exact c.cur, ?_, by rw [e3]; exact c.wk, c.nc, c.mx, by rw [e3]; exact c.so⟩
  unfold laidBy
  rw [e3]
  exact c.pu
theorem Co.nb {ks : List Wk} {g : LG} {h : GH} (c : Co ks g h) : Co ks g { h with nb := h.G.length } :=
  ⟨⟨c.ok.clen, c.ok.on, c.ok.off, c.ok.mb, Nat.le_refl _⟩, c.ever, c.evl, c.cur, c.pu, c.wk, c.nc, c.mx, c.so⟩
theorem start_many (k : Wk) : k.start.many = k.many := by
  unfold Wk.start
  split <;> rfl
theorem modify_at {ks : List Wk} {n j : Nat} {k : Wk} (h : ks[j]? = some k) : ∃ k', (ks.modify n Wk.start)[j]? = some k' ∧ k'.many = k.many := by
  rw [List.getElem?_modify, h]
  refine ⟨_, rfl, ?_⟩
  by_cases e : n = j
  · simp only [e, if_true]
    exact start_many k
  · simp only [e, if_false]
theorem Co.start {ks : List Wk} {g : LG} {h : GH} (c : Co ks g h) (n : Nat) : Co (ks.modify n Wk.start) (g.start ks n) (h.start n) := by
  have ok' := c.ok.start n
  by_cases hn : h.cur[n]? = some none
  · have hl : n < ks.length := by rw [← c.ok.clen]; exact (List.getElem?_eq_some_iff.mp hn).1
    have hk := List.getElem?_eq_getElem hl
    obtain ⟨o1, o2⟩ := c.ok.off n _ hk hn
    have eg : g.start ks n = { g with ev := g.ev.set n g.ever, ever := g.ever + 1 } := by
      unfold LG.start
      rw [hk]
      simp only
      rw [if_neg (by rw [o1]; decide)]
    rw [start_off hn] at ok' ⊢
    rw [eg]
    refine ⟨ok', ?_, ?_, ?_, ?_, ?_, ?_, ?_, c.so⟩
    · show g.ever + 1 = ((h.G ++ [_]).length : Int)
      rw [c.ever, List.length_append]
      simp
    · show (g.ev.set n g.ever).length = _
      rw [List.length_set, List.length_modify]
      exact c.evl
    · intro j i hj
      show (g.ev.set n g.ever)[j]? = _
      have hj : (h.cur.set n (some h.G.length))[j]? = some (some i) := hj
      by_cases e : j = n
      · subst e
        rw [gset_self hn] at hj
        cases hj
        rw [List.getElem?_set_self (by rw [c.evl]; exact hl), c.ever]
      · rw [gset_ne e] at hj
        rw [gset_ne e]
        exact c.cur j i hj
    · intro i e he
      have he : (h.G ++ [(⟨n, none, []⟩ : Go)])[i]? = some e := he
      by_cases hi : i < h.G.length
      · rw [List.getElem?_append_left hi] at he
        exact c.pu i e he
      · rw [List.getElem?_append_right (by omega)] at he
        have h0 : i - h.G.length = 0 := by
          have := (List.getElem?_eq_some_iff.mp he).1
          simpa using this
        rw [h0] at he
        cases he
        have : laidBy g i = [] := List.filter_eq_nil_iff.mpr (fun x hx => by
          obtain ⟨i', e', e1, e2, _⟩ := c.wk x hx
          have := (List.getElem?_eq_some_iff.mp e2).1
          simp only [decide_eq_true_eq]
          omega)
        show [] = (laidBy g i).map _
        rw [this]
        rfl
    · intro x hx
      obtain ⟨i, e, e1, e2, e3⟩ := c.wk x hx
      exact ⟨i, e, e1, gapp e2, e3⟩
    · intro i e he
      have he : (h.G ++ [(⟨n, none, []⟩ : Go)])[i]? = some e := he
      by_cases hi : i < h.G.length
      · rw [List.getElem?_append_left hi] at he
        obtain ⟨k, k1, k2⟩ := c.nc i e he
        obtain ⟨k', k1', k2'⟩ := modify_at (n := n) k1
        refine ⟨k', k1', ?_⟩
        rw [k2']
        show (h.cur.set n (some h.G.length))[e.n]? = _ ∨ _
        rcases k2 with k2 | k2
        · refine .inl ?_
          rw [gset_ne (fun z => by rw [z, hn] at k2; cases k2)]
          exact k2
        · exact .inr k2
      · rw [List.getElem?_append_right (by omega)] at he
        have h0 : i - h.G.length = 0 := by
          have := (List.getElem?_eq_some_iff.mp he).1
          simpa using this
        rw [h0] at he
        cases he
        obtain ⟨k', k1', _⟩ := modify_at (n := n) hk
        refine ⟨k', k1', .inl ?_⟩
        show (h.cur.set n (some h.G.length))[n]? = _
        rw [gset_self hn, show i = h.G.length by omega]
    · intro i i' j e he ej hc
      have he : (h.G ++ [(⟨n, none, []⟩ : Go)])[i']? = some e := he
      have hc : (h.cur.set n (some h.G.length))[j]? = some (some i) := hc
      by_cases hj : j = n
      · subst hj
        rw [gset_self hn] at hc
        cases hc
        have := (List.getElem?_eq_some_iff.mp he).1
        rw [List.length_append] at this
        simp at this
        omega
      · rw [gset_ne hj] at hc
        by_cases hi : i' < h.G.length
        · rw [List.getElem?_append_left hi] at he
          exact c.mx i i' j e he ej hc
        · rw [List.getElem?_append_right (by omega)] at he
          have h0 : i' - h.G.length = 0 := by
            have := (List.getElem?_eq_some_iff.mp he).1
            simpa using this
          rw [h0] at he
          cases he
          exact absurd ej.symm hj
  · have eh : h.start n = h := by
      cases e : h.cur[n]? with
      | none => exact start_none e
      | some o =>
        cases o with
        | none => exact absurd e hn
        | some i => exact start_on e
    have eg : g.start ks n = g := by
      unfold LG.start
      cases e : ks[n]? with
      | none => rfl
      | some k =>
        simp only
        have hl : n < h.cur.length := by rw [c.ok.clen]; exact (List.getElem?_eq_some_iff.mp e).1
        have hc := List.getElem?_eq_getElem hl
        cases e2 : h.cur[n] with
        | none => rw [e2] at hc; exact absurd hc hn
        | some i =>
          rw [e2] at hc
          rw [if_pos (c.ok.on n k i e hc).1]
    rw [c.ok.start_same hn, eh, eg]
    exact c
theorem Co.asks {b : Int} : ∀ {as : List (Int × Int)} {ks : List Wk} {g : LG} {h : GH}, Co ks g h → Co (askAll b ks as) (g.asks b ks as) (h.startAll ((as.filter fun a => decide (a.1 = b)).map (·.2)))
  | [], ks, g, h, c => c
  | a :: r, ks, g, h, c => by
    show Co (askAll b (askOne b ks a) r) (if a.1 = b then (g.start ks a.2.toNat).asks b (ks.modify a.2.toNat Wk.start) r else g.asks b ks r) (h.startAll (((a :: r).filter fun a => decide (a.1 = b)).map (·.2)))
    by_cases hb : a.1 = b
    · rw [if_pos hb, List.filter_cons_of_pos (by simpa using hb)]
      have e1 : askOne b ks a = ks.modify a.2.toNat Wk.start := by unfold askOne; rw [if_pos hb]
      rw [e1]
      exact Co.asks (c.start a.2.toNat)
    · rw [if_neg hb, List.filter_cons_of_neg (by simpa using hb)]
      have e1 : askOne b ks a = ks := by unfold askOne; rw [if_neg hb]
      rw [e1]
      exact Co.asks c
theorem move_many (k : Wk) (ws : List Int) : (k.move ws).1.many = k.many := by
  unfold Wk.move
  cases k.hand <;> rfl
theorem set_at {ks : List Wk} {n j : Nat} {k k2 k' : Wk} (h : ks[j]? = some k) (hn : ks[n]? = some k2) (e : k'.many = k2.many) : ∃ x, (ks.set n k')[j]? = some x ∧ x.many = k.many := by
  by_cases hj : j = n
  · subst hj
    rw [hn] at h
    cases h
    exact ⟨k', gset_self hn, e⟩
  · rw [gset_ne hj]
    exact ⟨k, h, rfl⟩
theorem Co.move {ks : List Wk} {g : LG} {h : GH} (c : Co ks g h) {j i : Nat} {k : Wk} {ws : List Int} {when : Int} (hk : ks[j]? = some k) (hc : h.cur[j]? = some (some i)) :
    Co (ks.set j (k.move ws).1) (match k.hand with | none => g | some _ => { g with laid := g.laid ++ [(g.ev.getD j 0, (k.goal + k.laid) % ws.length, when, (j : Int))] }) (h.move j k when ws) := by
  have ok' := c.ok.move (ws := ws) (when := when) hk hc
  obtain ⟨p1, e, p2, p3, p4, p5, p6⟩ := c.ok.on j k i hk hc
  have hev : g.ev.getD j 0 = (i : Int) := by
    rw [List.getD_eq_getElem?_getD, c.cur j i hc]
    rfl
  rw [move_eq hc p2] at ok' ⊢
  rw [hev]
  have hil : i < h.G.length := (List.getElem?_eq_some_iff.mp p2).1
  cases hh : k.hand with
  | none =>
    simp only [hh] at ok' ⊢
    refine ⟨ok', by rw [List.length_set]; exact c.ever, by rw [List.length_set]; exact c.evl, c.cur, ?_, ?_, ?_, ?_, c.so⟩
    · intro i' e' he
      by_cases hi : i' = i
      · subst hi
        rw [gset_self p2] at he
        cases he
        exact c.pu i' e p2
      · rw [gset_ne hi] at he
        exact c.pu i' e' he
    · intro x hx
      obtain ⟨i', e', e1, e2, e3⟩ := c.wk x hx
      by_cases hi : i' = i
      · subst hi
        rw [p2] at e2
        cases e2
        exact ⟨i', _, e1, gset_self p2, e3⟩
      · exact ⟨i', e', e1, by rw [gset_ne hi]; exact e2, e3⟩
    · intro i' e' he
      have main : ∀ e0 : Go, h.G[i']? = some e0 → e0.n = e'.n → e0.pu = e'.pu → ∃ k', (ks.set j (k.move ws).1)[e'.n]? = some k' ∧ (h.cur[e'.n]? = some (some i') ∨ (e'.pu.length : Int) = k'.many) := fun e0 h0 h1 h2 => by
        obtain ⟨k0, k1, k2⟩ := c.nc i' e0 h0
        rw [h1] at k1 k2
        rw [h2] at k2
        obtain ⟨x, x1, x2⟩ := set_at k1 hk (move_many k ws)
        exact ⟨x, x1, by rw [x2]; exact k2⟩
      by_cases hi : i' = i
      · subst hi
        rw [gset_self p2] at he
        cases he
        exact main e p2 rfl rfl
      · rw [gset_ne hi] at he
        exact main e' he rfl rfl
    · intro a i' j' e' he ej hcu
      by_cases hi : i' = i
      · subst hi
        rw [gset_self p2] at he
        cases he
        exact c.mx a i' j' e p2 ej hcu
      · rw [gset_ne hi] at he
        exact c.mx a i' j' e' he ej hcu
  | some y =>
    simp only [hh] at ok' ⊢
    have hcur : ∀ j' i' : Nat, (if k.laid + 1 < k.many then h.cur else h.cur.set j none)[j']? = some (some i') → h.cur[j']? = some (some i') := fun j' i' z => by
      by_cases q : k.laid + 1 < k.many
      · rw [if_pos q] at z; exact z
      · rw [if_neg q] at z
        by_cases hj : j' = j
        · subst hj
          rw [gset_self hc] at z
          cases z
        · rw [gset_ne hj] at z
          exact z
    have lb : ∀ i' : Nat, laidBy { g with laid := g.laid ++ [((i : Int), (k.goal + k.laid) % ws.length, when, (j : Int))] } i' = laidBy g i' ++ (if i' = i then [((i : Int), (k.goal + k.laid) % ws.length, when, (j : Int))] else []) := fun i' => by
      unfold laidBy
      show (g.laid ++ [_]).filter _ = _
      rw [List.filter_append]
      congr 1
      by_cases hi : i' = i
      · subst hi
        rw [if_pos rfl, List.filter_cons_of_pos (by simp), List.filter_nil]
      · rw [if_neg hi, List.filter_cons_of_neg (by simp; omega), List.filter_nil]
    refine ⟨ok', by rw [List.length_set]; exact c.ever, by rw [List.length_set]; exact c.evl, fun j' i' z => c.cur j' i' (hcur j' i' z), ?_, ?_, ?_, ?_, ?_⟩
    · intro i' e' he
      rw [lb]
      by_cases hi : i' = i
      · subst hi
        rw [gset_self p2] at he
        cases he
        rw [if_pos rfl, List.map_append, ← c.pu i' e p2]
        rfl
      · rw [gset_ne hi] at he
        rw [if_neg hi, List.append_nil]
        exact c.pu i' e' he
    · intro x hx
      rcases List.mem_append.mp hx with hx | hx
      · obtain ⟨i', e', e1, e2, e3⟩ := c.wk x hx
        by_cases hi : i' = i
        · subst hi
          rw [p2] at e2
          cases e2
          exact ⟨i', _, e1, gset_self p2, e3⟩
        · exact ⟨i', e', e1, by rw [gset_ne hi]; exact e2, e3⟩
      · have ex : x = ((i : Int), (k.goal + k.laid) % ws.length, when, (j : Int)) := by simpa using hx
        rw [ex]
        exact ⟨i, _, rfl, gset_self p2, by rw [← p3]⟩
    · intro i' e' he
      by_cases hi : i' = i
      · subst hi
        rw [gset_self p2] at he
        cases he
        refine ⟨_, by show (ks.set j (k.move ws).1)[e.n]? = _; rw [p3]; exact gset_self hk, ?_⟩
        rw [move_many]
        show (if k.laid + 1 < k.many then h.cur else h.cur.set j none)[e.n]? = some (some i') ∨ ((e.pu ++ [(when, (k.goal + k.laid) % ws.length)]).length : Int) = k.many
        by_cases q : k.laid + 1 < k.many
        · rw [if_pos q, p3]
          exact .inl hc
        · refine .inr ?_
          rw [List.length_append]
          simp only [List.length_cons, List.length_nil]
          omega
      · rw [gset_ne hi] at he
        obtain ⟨k0, k1, k2⟩ := c.nc i' e' he
        obtain ⟨x, x1, x2⟩ := set_at k1 hk (move_many k ws)
        refine ⟨x, x1, ?_⟩
        rw [x2]
        rcases k2 with k2 | k2
        · refine .inl ?_
          have hne : e'.n ≠ j := fun z => by
            rw [z, hc] at k2
            cases k2
            exact hi rfl
          by_cases q : k.laid + 1 < k.many
          · rw [if_pos q]; exact k2
          · rw [if_neg q, gset_ne hne]; exact k2
        · exact .inr k2
    · intro a i' j' e' he ej hcu
      have hcu' := hcur j' a hcu
      by_cases hi : i' = i
      · subst hi
        rw [gset_self p2] at he
        cases he
        exact c.mx a i' j' e p2 ej hcu'
      · rw [gset_ne hi] at he
        exact c.mx a i' j' e' he ej hcu'
    · show (g.laid ++ [_]).Pairwise _
      refine List.pairwise_append.mpr ⟨c.so, List.pairwise_singleton _ _, fun x hx y hy => ?_⟩
      have ey : y = ((i : Int), (k.goal + k.laid) % ws.length, when, (j : Int)) := by simpa using hy
      rw [ey]
      intro hw
      have hw : x.2.2.2 = (j : Int) := hw
      obtain ⟨i', e', e1, e2, e3⟩ := c.wk x hx
      have := c.mx i i' j e' e2 (by omega) hc
      show x.1 ≤ (i : Int)
      omega
theorem Co.dev {ks : List Wk} {g : LG} {h : GH} (c : Co ks g h) (took wanted : Bool) (ms : List Bool) (ws : List Int) (when : Int) : Co (devMove ks took wanted ms ws).1 (g.dev ks took wanted ms ws when) (devG ks took wanted ms ws when h) := by
  unfold devMove LG.dev devG
  cases hf : ks.findIdx? (takes ms wanted took) with
  | none => exact c
  | some j =>
    obtain ⟨hj, ht, _⟩ := List.findIdx?_eq_some_iff_getElem.mp hf
    have hk : ks[j]? = some ks[j] := List.getElem?_eq_getElem hj
    generalize ks[j] = k at hk ht
    have on := takes_on ht
    have hcl : j < h.cur.length := by rw [c.ok.clen]; exact hj
    have hc := List.getElem?_eq_getElem hcl
    cases e2 : h.cur[j] with
    | none =>
      rw [e2] at hc
      have := (c.ok.off j k hk hc).1
      rw [on] at this
      cases this
    | some i =>
      rw [e2] at hc
      have M := c.move (ws := ws) (when := when) hk hc
      simp only [hk, wkAt_some hk]
      cases hh : k.hand with
      | none =>
        simp only [hh] at M ⊢
        have e1 : (k.move ws).1.on = true := by
          unfold Wk.move
          rw [hh]
          exact on
        rw [if_pos e1, if_pos e1]
        exact M
      | some y =>
        simp only [hh] at M ⊢
        have e1 : (k.move ws).1.on = decide (k.laid + 1 < k.many) := by
          unfold Wk.move
          rw [hh]
        have e3 : (k.move ws).1.follow = k.follow := by
          unfold Wk.move
          rw [hh]
        by_cases q : k.laid + 1 < k.many
        · have e4 : (k.move ws).1.on = true := by rw [e1]; exact decide_eq_true q
          rw [if_pos e4, if_pos e4, if_pos q]
          exact M
        · have e4 : ¬ (k.move ws).1.on = true := by rw [e1, decide_eq_false q]; decide
          rw [if_neg e4, if_neg e4, if_neg q, e3]
          cases k.follow with
          | none => exact M
          | some f => exact M.start f.toNat
theorem start_ev {g : LG} : True := trivial
theorem Co.mst {prog : List Row} {S : MS} {ks : List Wk} {g : LG} {h : GH} (c : Co ks g h) (took : Bool) (ws : List Int) (when : Int) : Co (mstep prog S ks took ws).2.1 (g.mst prog S ks took ws when) (mstepG prog S took h) := by
  have cfin : ∀ (g1 : LG) (row : Int), Co ks g1 h → Co ks (g1.fin row when) h := fun g1 row c1 => by
    unfold LG.fin
    split
    · exact c1.congr rfl rfl rfl
    · exact c1
  have ctou : ∀ (r : Row), Co ks (g.touch r S ws when) h := fun r => by
    cases r with
    | pair a b =>
      show Co ks (if S.spent = 1 then _ else _ : LG) h
      split
      · exact c.congr rfl rfl rfl
      · exact c.congr rfl rfl rfl
    | _ => exact c.congr rfl rfl rfl
  have ceff : ∀ (g1 : LG) (n : Nat) (S1 : MS) (r : Row), Co ks g1 h → Co (eff n S1 ks r).2 (g1.eff ks r) (effG h r) := fun g1 n S1 r c1 => by
    cases r with
    | ask x => exact c1.start x.toNat
    | _ => exact c1
  unfold mstep LG.mst mstepG
  cases hr : prog[S.row.toNat]? with
  | none => exact c
  | some r =>
    have hw := isW_word (r := r) S.spent S.cells
    cases hwd : r.word S.spent S.cells with
    | none =>
      rw [hwd] at hw
      have hw : r.isW = false := hw.symm
      simp only [hwd]
      rw [if_neg (fun z => by rw [hw] at z; cases z.1), if_neg (c := r.isW = true) (by rw [hw]; decide)]
      unfold tick
      dsimp only
      by_cases q : S.spent + 1 = r.beats
      · rw [if_pos q, if_pos q, if_pos q]
        exact ceff _ _ _ _ (cfin _ _ c)
      · rw [if_neg q, if_neg q, if_neg q]
        exact c
    | some zz =>
      obtain ⟨z, p, cl⟩ := zz
      rw [hwd] at hw
      have hw : r.isW = true := hw.symm
      simp only [hwd]
      cases took with
      | true =>
        simp only [hw, and_self, if_true]
        exact c
      | false =>
        simp only [hw, Bool.false_eq_true, and_false, if_false, if_true]
        unfold tick
        dsimp only
        by_cases q : S.spent + 1 = r.beats
        · simp only [q, if_true]
          exact ceff _ _ _ _ (cfin _ _ (ctou r))
        · simp only [q, if_false]
          exact ctou r
theorem Co.next {s : HS} {g : LG} {h : GH} (c : Co s.ks g h) : Co s.next.ks (LG.next s g) (s.gnext h) := by
  have c1 : Co (askAll s.beats s.ks s.asks) (g.asks s.beats s.ks s.asks) (s.wake h) := Co.asks c.nb
  have c2 := c1.dev s.took (wantedOf s.prog s.S).isSome s.S.marks s.ws s.beats
  exact c2.mst s.dm.2.1 s.dm.2.2.1 s.beats
theorem Co.after {s : HS} {g : LG} {h : GH} (c : Co s.ks g h) : ∀ n, Co (s.after n).ks (s.lafter g n) (s.gafter h n)
  | 0 => c
  | n + 1 => (Co.after c n).next
theorem Co.at0 {prog : List Row} {as : List (Int × Int)} {ks : List Wk} {ws : List Int} (hk : ∀ k ∈ ks, WOk ks.length k) : Co (HS.at0 prog as ks ws).ks (LG.none ks.length prog.length) (GH.none ks.length) := by
  have hcur : ∀ (j : Nat) (o : Option Nat), (GH.none ks.length).cur[j]? = some o → o = none := fun j o z => by
    have z : (List.replicate ks.length (none : Option Nat))[j]? = some o := z
    have := List.mem_of_getElem? z
    exact (List.mem_replicate.mp this).2
  have hlen : (HS.at0 prog as ks ws).ks.length = ks.length := by show (ks.map Wk.fresh).length = _; rw [List.length_map]
  have hat : ∀ (j : Nat) (k : Wk), (HS.at0 prog as ks ws).ks[j]? = some k → ∃ k0 ∈ ks, k = k0.fresh := fun j k z => by
    have z : (ks.map Wk.fresh)[j]? = some k := z
    rw [List.getElem?_map] at z
    cases e : ks[j]? with
    | none => rw [e] at z; cases z
    | some k0 =>
      rw [e] at z
      cases z
      exact ⟨k0, List.mem_of_getElem? e, rfl⟩
  refine ⟨⟨by rw [hlen]; show (List.replicate ks.length none).length = _; rw [List.length_replicate], ?_, ?_, ?_, Nat.le_refl _⟩, rfl, by rw [hlen]; show (List.replicate ks.length (0 : Int)).length = _; rw [List.length_replicate], ?_, ?_, ?_, ?_, ?_, List.Pairwise.nil⟩
  · intro j k i h1 h2
    cases hcur j _ h2
  · intro j k h1 h2
    obtain ⟨k0, _, rfl⟩ := hat j k h1
    exact ⟨rfl, rfl⟩
  · intro k h1
    obtain ⟨j, hj⟩ := List.getElem?_of_mem h1
    obtain ⟨k0, h0, rfl⟩ := hat j k hj
    obtain ⟨m1, m2⟩ := (hk k0 h0).m
    exact ⟨by show 0 < k0.many; omega, m2⟩
  · intro j i z
    cases hcur j _ z
  · intro i e z
    cases z
  · intro x z
    cases z
  · intro i e z
    cases z
  · intro i i' j e z
    cases z
end SB

set_option Elab.async false
set_option linter.all false
set_option maxRecDepth 100000
set_option maxHeartbeats 2000000
namespace SB
open PySem L2
section
variable {P : Program} {w : World} {K : PySem.W.Frag} {mg : Str → Option Value} {base : Heap} {H H' : Hp}
def sp_Watch_run (K : PySem.W.Frag) : Sp := fun vs H Q _ => ∃ (b : WaA) (s : HS) (g : GH) (m : Int), vs = [.ref b.wt, .int m] ∧ WatchAt K H b s g 0 (fun _ => none) WP.nil ∧ HOk s ∧ 0 ≤ m ∧ m ≤ 300 ∧
  ∀ H' b', b'.wt = b.wt → b'.dn = b.dn → WatchAt K H' b' (s.after m.toNat) (s.gafter g m.toNat) m.toNat (dnN s m.toNat) (wpN s m.toNat) → Step b.foot H b'.foot H' → ObAt H' b' (dnN s m.toNat) (onT s) → Q .non H'
theorem ok_Watch_run (T : T w K mg) : FnR P w K mg base CX0 8 (He.ma K (He.ga K "Watch") "run") (sp_Watch_run K) := by
  have F_Watch_step : FnR P w K mg base CX0 7 _ _ := ok_Watch_step T
  obtain ⟨fd, F⟩ := T.f_Watch_run
  refine F.r sc_Watch_run (fun _ _ _ _ _ _ us hl => match us, hl with | [_, _], _ => rfl) (fun vs H Q E h => ?_) (fun cdv A outer s0 H vs Q E hr h => ?_)
  · obtain ⟨_, _, _, _, rfl, _⟩ := h
    rfl
  · obtain ⟨b, s, g, m, rfl, W, O, m0, m1, q⟩ := h
    refine ⟨_, (pss_one (ps_for PassesOwn.never rfl (pi_range1 rfl T.u_range (pa_cons (pv 1) pa_nil)) (pg_name (i := 2) sc_Watch_run.nd rfl (Or.inl rfl))
  (pss_one (ps_expr (pe_mth0R (pv 0) T.cl_Watch T.m_Watch_step F_Watch_step (hr.mono (by decide))))))), ?_⟩
    refine ⟨_, rfl, m, rfl, by omega, by omega, ?_⟩
    refine for_it walk_range (fun i σ H2 => ∃ v2 b', σ = [some (.ref b.wt), some (.int m), v2] ∧ b'.wt = b.wt ∧ b'.dn = b.dn ∧ WatchAt K H2 b' (s.after i) (s.gafter g i) i (dnN s i) (wpN s i) ∧ Step b.foot H b'.foot H2 ∧ ObAt H2 b' (dnN s i) (onT s))
      ⟨none, b, rfl, rfl, rfl, W, Step.refl _ _, W.ob0⟩ (fun _ _ _ _ _ => trivial) ?_ ?_
    · rintro i x σ H2 H2' hi ⟨v2, b', rfl, e1, e2, W2, st2, o2⟩ ⟨rfl, rfl⟩
      refine ⟨_, rfl, _, _, _, rfl, by rw [← e1]; exact W2.wo, wa_no_step _, ?_⟩
      refine ⟨b', _, _, i, _, _, by rw [e1], W2, O.after i, by omega, fun H3 b3 a1 a2 W3 st3 on3 => ?_⟩
      exact ⟨_, b3, rfl, a1.trans e1, a2.trans e2, W3, st2.trans st3, o2.step st3 on3 (onT_at s i)⟩
    · rintro σ H2 ⟨v2, b', rfl, e1, e2, W2, st2, o2⟩
      exact q _ b' e1 e2 W2 st2 o2
end
end SB

set_option Elab.async false
set_option linter.all false
set_option maxRecDepth 100000
set_option maxHeartbeats 2000000
namespace SB
open PySem L2
def StrP (prog : List Row) : Prop := ∀ r ∈ prog, (∀ x, r ≠ .go x) ∧ ∀ x y, r ≠ .iff x y
theorem in_go {r : Row} (h1 : ∀ x, r ≠ .go x) (h2 : ∀ x y, r ≠ .iff x y) : inV (.str r.nm) [.str "go", .str "if"] = false := by
  cases r <;> first | exact absurd rfl (h1 _) | exact absurd rfl (h2 _ _) | kernel_rfl
section
variable {P : Program} {w : World} {K : PySem.W.Frag} {mg : Str → Option Value} {base : Heap} {H H' : Hp}
def sp_check_straight (K : PySem.W.Frag) : Sp := fun vs H Q _ => ∃ (pa : Addr) (rs : List Addr) (prog : List Row), vs = [.ref pa] ∧ ProgAt K H pa rs prog ∧ StrP prog ∧ ∀ H', Same H H' → Q .non H'
theorem ok_check_straight (T : T w K mg) : FnR P w K mg base CX0 1 (He.ga K "check_straight") (sp_check_straight K) := by
  obtain ⟨fd, F⟩ := T.f_check_straight
  refine F.r sc_check_straight (fun _ _ _ _ _ _ us hl => match us, hl with | [_], _ => rfl) (fun vs H Q E h => ?_) (fun cdv A outer s H vs Q E hr h => ?_)
  · obtain ⟨_, _, _, rfl, _⟩ := h
    rfl
  · obtain ⟨pa, rs, prog, rfl, Pr, st, q⟩ := h
    refine ⟨_, (pss_one (ps_for PassesOwn.never rfl (pi_tup (pv 0)) (pg_name (i := 1) sc_check_straight.nd rfl (Or.inl rfl))
  (pss_one (ps_if (pt_cmpR op_in_seq (pe_ix ix_tup (pv 1) pe_int (fun _ _ => rfl)) (pe_tup (pa_cons pe_str (pa_cons pe_str pa_nil))) rfl)
  (pss_one ps_never)
  pss_nil)))), ?_⟩
    refine ⟨_, rfl, pa, rfl, ⟨_, Pr.tup⟩, for_it (walk_tup (xs := rs.map V.ref)) (fun i σ H2 => ∃ v1, σ = [some (.ref pa), v1] ∧ Same H H2) ⟨none, rfl, Same.refl _⟩ (fun i σ H2 _ ⟨_, _, s⟩ => Same.tup s Pr.tup) ?_ (fun σ H2 ⟨_, _, s⟩ => q _ s)⟩
    rintro i x σ H2 H3 hi ⟨v1, rfl, s2⟩ ⟨rfl, hx⟩
    rw [List.getElem?_map] at hx
    cases ht : rs[i]? with
    | none => rw [ht] at hx; cases hx
    | some t =>
      rw [ht] at hx
      cases hx
      have hi2 : i < prog.length := by
        have := (List.getElem?_eq_some_iff.mp ht).1
        rw [Pr.len] at this
        exact this
      obtain ⟨r, hr'⟩ : ∃ r, prog[i]? = some r := ⟨_, List.getElem?_eq_getElem hi2⟩
      have h2 := Same.tup s2 (Pr.at_ i t r ht hr')
      obtain ⟨g1, g2⟩ := st r (List.mem_of_getElem? hr')
      refine ⟨.ref t, rfl, _, _, _, .str r.nm, rfl, rfl, h2, by rw [Row.vs_eq]; exact at_0', by show 2 ≤ sizeLine; decide, fun t2 n2 => ⟨t2, _, rfl, .inr (SqT.of upd_same), rfl, rfl, _, rfl, ?_⟩⟩
      show if (inV (.str r.nm) [.str "go", .str "if"]) = true then _ else _
      rw [in_go g1 g2]
      exact iteF ⟨_, rfl, s2.trans (Same.new (Same.refl _) n2)⟩
structure GoodA (K : PySem.W.Frag) (H : Hp) (pa wl al : Addr) (rs ts qs : List Addr) (prog : List Row) (ks : List Wk) (as : List (Int × Int)) : Prop where
  pr : ProgAt K H pa rs prog
  p0 : 0 < prog.length
  p40 : prog.length ≤ 40
  pok : ∀ r ∈ prog, r.ok prog.length
  W : WorksAt K H wl ts ks
  k6 : ks.length ≤ 6
  kok : ∀ k ∈ ks, WOk ks.length k
  A : AsksAt K H al qs as
  ao : AOk ks.length as
theorem GoodA.same {pa wl al : Addr} {rs ts qs : List Addr} {prog : List Row} {ks : List Wk} {as : List (Int × Int)} (h : GoodA K H pa wl al rs ts qs prog ks as) (s : Same H H') : GoodA K H' pa wl al rs ts qs prog ks as :=
  ⟨h.pr.same s, h.p0, h.p40, h.pok, h.W.same s, h.k6, h.kok, h.A.same s, h.ao⟩
def sp_check_ahead (K : PySem.W.Frag) : Sp := fun vs H Q _ => ∃ (pa wl al : Addr) (rs ts qs : List Addr) (prog : List Row) (ks : List Wk) (as : List (Int × Int)), vs = [.ref pa, .ref wl, .ref al] ∧ GoodA K H pa wl al rs ts qs prog ks as ∧ StrP prog ∧ ∀ H', Same H H' → Q .non H'
def w0s : List Int := [0, 0, 0, 0]
def sp_watched (K : PySem.W.Frag) : Sp := fun vs H Q _ => ∃ (pa wl al : Addr) (rs ts qs : List Addr) (prog : List Row) (ks : List Wk) (as : List (Int × Int)), vs = [.ref pa, .ref wl, .ref al] ∧ GoodA K H pa wl al rs ts qs prog ks as ∧
  ∀ H' b, WatchAt K H' b ((HS.at0 prog as ks w0s).after 300) ((HS.at0 prog as ks w0s).gafter (GH.none ks.length) 300) 300 (dnN (HS.at0 prog as ks w0s) 300) (wpN (HS.at0 prog as ks w0s) 300) → (∀ x ∈ b.foot, H x = none) → Same H H' → Q (.ref b.wt) H'
def tmsV (s : HS) (n : Nat) : List V := (List.range n).map fun (i : Nat) => oV (dnN s 300 (i : Int))
def sp_row_times (K : PySem.W.Frag) : Sp := fun vs H Q _ => ∃ (pa wl al : Addr) (rs ts qs : List Addr) (prog : List Row) (ks : List Wk) (as : List (Int × Int)), vs = [.ref pa, .ref wl, .ref al] ∧ GoodA K H pa wl al rs ts qs prog ks as ∧
  ∀ H' R, H R = none → H' R = some (.lst (tmsV (HS.at0 prog as ks w0s) prog.length)) → Same H H' → Q (.ref R) H'
def sp_times (K : PySem.W.Frag) : Sp := fun vs H Q _ => ∃ (pa wl al : Addr) (rs ts qs : List Addr) (prog : List Row) (ks : List Wk) (as : List (Int × Int)), vs = [.ref pa, .ref wl, .ref al] ∧ GoodA K H pa wl al rs ts qs prog ks as ∧ StrP prog ∧
  ∀ H' R, H R = none → H' R = some (.lst (tmsV (HS.at0 prog as ks w0s) prog.length)) → Same H H' → Q (.ref R) H'
end
end SB

set_option Elab.async false
set_option linter.all false
set_option maxRecDepth 100000
set_option maxHeartbeats 2000000
namespace SB
open PySem L2
def sk (k : Wk) : Wk := { k with hand := k.hand.map fun _ => 0 }
theorem sk_start (k : Wk) : sk k.start = (sk k).start := by
  unfold Wk.start sk
  by_cases h : k.on = true
  · rw [if_pos h, if_pos h]
  · rw [if_neg h, if_neg h]
theorem sk_takes {ms : List Bool} {wanted took : Bool} (k : Wk) : takes ms wanted took (sk k) = takes ms wanted took k := by
  obtain ⟨b, g, m, c, gr, ma, fo, on, la, ha⟩ := k
  unfold takes Wk.held Wk.may sk
  cases ha <;> rfl
theorem sk_move {k1 k2 : Wk} {ws1 ws2 : List Int} (h : sk k1 = sk k2) : sk (k1.move ws1).1 = sk (k2.move ws2).1 ∧ (k1.move ws1).1.on = (k2.move ws2).1.on ∧ (k1.move ws1).1.follow = (k2.move ws2).1.follow := by
  obtain ⟨b, g, m, c, gr, ma, fo, on, la, ha⟩ := k1
  obtain ⟨b', g', m', c', gr', ma', fo', on', la', ha'⟩ := k2
  simp only [sk, Wk.mk.injEq] at h
  obtain ⟨rfl, rfl, rfl, rfl, rfl, rfl, rfl, rfl, rfl, h⟩ := h
  cases ha with
  | none =>
    cases ha' with
    | none => exact ⟨rfl, rfl, rfl⟩
    | some y => cases h
  | some x =>
    cases ha' with
    | none => cases h
    | some y => exact ⟨rfl, rfl, rfl⟩
def KS (a b : List Wk) : Prop := a.map sk = b.map sk
theorem KS.modify {a b : List Wk} (h : KS a b) (n : Nat) : KS (a.modify n Wk.start) (b.modify n Wk.start) := by
  have key : ∀ l : List Wk, (l.modify n Wk.start).map sk = (l.map sk).modify n Wk.start := fun l => by
    apply List.ext_getElem?
    intro i
    rw [List.getElem?_map, List.getElem?_modify, List.getElem?_modify, List.getElem?_map]
    cases l[i]? with
    | none => rfl
    | some k =>
      by_cases hi : n = i
      · simp [hi, sk_start]
      · simp [hi]
  unfold KS
  rw [key, key, h]
theorem KS.set {a b : List Wk} (h : KS a b) (n : Nat) {x y : Wk} (hx : sk x = sk y) : KS (a.set n x) (b.set n y) := by
  unfold KS
  rw [List.map_set, List.map_set, h, hx]
theorem KS.find {a b : List Wk} (h : KS a b) {ms : List Bool} {wanted took : Bool} : a.findIdx? (takes ms wanted took) = b.findIdx? (takes ms wanted took) := by
  have key : ∀ l : List Wk, l.findIdx? (takes ms wanted took) = (l.map sk).findIdx? (takes ms wanted took) := fun l => by
    rw [List.findIdx?_map]
    congr 1
    funext k
    exact (sk_takes k).symm
  rw [key, key b, h]
theorem KS.at_ {a b : List Wk} (h : KS a b) (j : Nat) : (a[j]? = none ∧ b[j]? = none) ∨ ∃ x y, a[j]? = some x ∧ b[j]? = some y ∧ sk x = sk y := by
  have e : (a.map sk)[j]? = (b.map sk)[j]? := by rw [h]
  rw [List.getElem?_map, List.getElem?_map] at e
  cases ha : a[j]? with
  | none =>
    cases hb : b[j]? with
    | none => exact .inl ⟨rfl, rfl⟩
    | some y => rw [ha, hb] at e; cases e
  | some x =>
    cases hb : b[j]? with
    | none => rw [ha, hb] at e; cases e
    | some y =>
      rw [ha, hb] at e
      exact .inr ⟨x, y, rfl, rfl, by simpa using e⟩
theorem KS.asks {n : Int} : ∀ {as : List (Int × Int)} {a b : List Wk}, KS a b → KS (askAll n a as) (askAll n b as)
  | [], a, b, h => h
  | x :: r, a, b, h => by
    show KS (askAll n (askOne n a x) r) (askAll n (askOne n b x) r)
    refine KS.asks ?_
    unfold askOne
    split
    · exact h.modify _
    · exact h
theorem KS.move {a b : List Wk} (h : KS a b) {took wanted : Bool} {ms : List Bool} {ws1 ws2 : List Int} : KS (devMove a took wanted ms ws1).1 (devMove b took wanted ms ws2).1 ∧ (devMove a took wanted ms ws1).2.1 = (devMove b took wanted ms ws2).2.1 := by
  unfold devMove
  rw [h.find]
  cases b.findIdx? (takes ms wanted took) with
  | none => exact ⟨h, rfl⟩
  | some j =>
    rcases h.at_ j with ⟨e1, e2⟩ | ⟨x, y, e1, e2, e3⟩
    · simp only [e1, e2]
      exact ⟨h, trivial⟩
    · simp only [e1, e2]
      obtain ⟨m1, m2, m3⟩ := sk_move (ws1 := ws1) (ws2 := ws2) e3
      refine ⟨?_, trivial⟩
      rw [m2, m3]
      split
      · exact h.set j m1
      · split
        · exact h.set j m1
        · exact (h.set j m1).modify _
def MT.c : MT → Nat
  | .waits => 0
  | .ends => 1
  | _ => 2
structure Sim (s t : HS) : Prop where
  prog : t.prog = s.prog
  asks : t.asks = s.asks
  row : t.S.row = s.S.row
  spent : t.S.spent = s.S.spent
  marks : t.S.marks = s.S.marks
  ks : KS s.ks t.ks
  took : t.took = s.took
  beats : t.beats = s.beats
theorem word_is (r : Row) (sp : Int) (c1 c2 : List Int) : (r.word sp c1).isSome = (r.word sp c2).isSome := by cases r <;> rfl
theorem eff_sim {n : Nat} {S1 S2 : MS} {a b : List Wk} {r : Row} (g1 : ∀ x, r ≠ .go x) (g2 : ∀ x y, r ≠ .iff x y) (h1 : S2.row = S1.row) (h3 : S2.marks = S1.marks) (hk : KS a b) :
    (eff n S2 b r).1.row = (eff n S1 a r).1.row ∧ (eff n S2 b r).1.spent = (eff n S1 a r).1.spent ∧ (eff n S2 b r).1.marks = (eff n S1 a r).1.marks ∧ KS (eff n S1 a r).2 (eff n S2 b r).2 := by
  cases r <;> first | exact absurd rfl (g1 _) | exact absurd rfl (g2 _ _) | (simp only [eff, h1, h3]; exact ⟨trivial, trivial, trivial, hk⟩) | (simp only [eff, h1, h3]; exact ⟨trivial, trivial, trivial, hk.modify _⟩)
theorem tick_sim {n : Nat} {S1 S2 : MS} {a b : List Wk} {r : Row} (g1 : ∀ x, r ≠ .go x) (g2 : ∀ x y, r ≠ .iff x y) (h1 : S2.row = S1.row) (h2 : S2.spent = S1.spent) (h3 : S2.marks = S1.marks) (hk : KS a b) :
    (tick n S2 b r).1.row = (tick n S1 a r).1.row ∧ (tick n S2 b r).1.spent = (tick n S1 a r).1.spent ∧ (tick n S2 b r).1.marks = (tick n S1 a r).1.marks ∧ KS (tick n S1 a r).2 (tick n S2 b r).2 := by
  unfold tick
  rw [h2]
  split
  · exact eff_sim g1 g2 h1 h3 hk
  · exact ⟨h1, h2, h3, hk⟩
theorem mstep_sim {prog : List Row} {S1 S2 : MS} {a b : List Wk} {took : Bool} {ws1 ws2 : List Int} (st : StrP prog) (h1 : S2.row = S1.row) (h2 : S2.spent = S1.spent) (h3 : S2.marks = S1.marks) (hk : KS a b) :
    (mstep prog S2 b took ws2).1.row = (mstep prog S1 a took ws1).1.row ∧ (mstep prog S2 b took ws2).1.spent = (mstep prog S1 a took ws1).1.spent ∧ (mstep prog S2 b took ws2).1.marks = (mstep prog S1 a took ws1).1.marks ∧ KS (mstep prog S1 a took ws1).2.1 (mstep prog S2 b took ws2).2.1 ∧ (mstep prog S2 b took ws2).2.2.2.c = (mstep prog S1 a took ws1).2.2.2.c := by
  obtain ⟨c1, mk1, r1, sp1⟩ := S1
  obtain ⟨c2, mk2, r2, sp2⟩ := S2
  have h1' : r2 = r1 := h1
  have h2' : sp2 = sp1 := h2
  have h3' : mk2 = mk1 := h3
  subst h1' h2' h3'
  unfold mstep
  cases hr : prog[r2.toNat]? with
  | none => simp only [hr]; exact ⟨trivial, trivial, trivial, hk, trivial⟩
  | some r =>
    obtain ⟨g1, g2⟩ := st r (List.mem_of_getElem? hr)
    have hw := word_is r sp2 c2 c1
    simp only [hr]
    cases e1 : r.word sp2 c1 with
    | none =>
      cases e2 : r.word sp2 c2 with
      | some z => rw [e1, e2] at hw; cases hw
      | none =>
        simp only [e1, e2]
        obtain ⟨t1, t2, t3, t4⟩ := tick_sim (n := prog.length) (S1 := ⟨c1, mk2, r2, sp2 + 1⟩) (S2 := ⟨c2, mk2, r2, sp2 + 1⟩) g1 g2 rfl rfl rfl hk
        exact ⟨t1, t2, t3, t4, trivial⟩
    | some z1 =>
      cases e2 : r.word sp2 c2 with
      | none => rw [e1, e2] at hw; cases hw
      | some z2 =>
        obtain ⟨z1, p1, d1⟩ := z1
        obtain ⟨z2, p2, d2⟩ := z2
        simp only [e1, e2]
        cases took with
        | true => exact ⟨rfl, rfl, rfl, hk, rfl⟩
        | false =>
          obtain ⟨t1, t2, t3, t4⟩ := tick_sim (n := prog.length) (S1 := ⟨(useW z1 p1 d1 c1 ws1).1, mk2, r2, sp2 + 1⟩) (S2 := ⟨(useW z2 p2 d2 c2 ws2).1, mk2, r2, sp2 + 1⟩) g1 g2 rfl rfl rfl hk
          simp only [Bool.false_eq_true, if_false]
          exact ⟨t1, t2, t3, t4, rfl⟩
theorem Sim.next {s t : HS} (h : Sim s t) (st : StrP s.prog) : Sim s.next t.next ∧ t.ent.2.c = s.ent.2.c := by
  have hw : (wantedOf t.prog t.S).isSome = (wantedOf s.prog s.S).isSome := by
    unfold wantedOf
    rw [h.prog, h.row, h.spent]
    cases s.prog[s.S.row.toNat]? with
    | none => rfl
    | some r => exact word_is _ _ _ _
  have hd := (h.ks.asks (n := s.beats) (as := s.asks)).move (took := s.took) (wanted := (wantedOf s.prog s.S).isSome) (ms := s.S.marks) (ws1 := s.ws) (ws2 := t.ws)
  have e1 : t.dm = devMove (askAll s.beats t.ks s.asks) s.took (wantedOf s.prog s.S).isSome s.S.marks t.ws := by
    unfold HS.dm
    rw [hw, h.beats, h.asks, h.took, h.marks]
  have e2 : s.dm = devMove (askAll s.beats s.ks s.asks) s.took (wantedOf s.prog s.S).isSome s.S.marks s.ws := rfl
  rw [← e1, ← e2] at hd
  obtain ⟨d1, d2⟩ := hd
  have hm := mstep_sim (took := s.dm.2.1) (ws1 := s.dm.2.2.1) (ws2 := t.dm.2.2.1) st h.row h.spent h.marks d1
  have e3 : t.ms = mstep s.prog t.S t.dm.1 s.dm.2.1 t.dm.2.2.1 := by
    unfold HS.ms
    rw [h.prog, ← d2]
  have e4 : s.ms = mstep s.prog s.S s.dm.1 s.dm.2.1 s.dm.2.2.1 := rfl
  rw [← e3, ← e4] at hm
  obtain ⟨m1, m2, m3, m4, m5⟩ := hm
  exact ⟨⟨h.prog, h.asks, m1, m2, m3, m4, d2.symm, by show t.beats + 1 = s.beats + 1; rw [h.beats]⟩, m5⟩
theorem after_progS (s : HS) : ∀ n, (s.after n).prog = s.prog
  | 0 => rfl
  | n + 1 => after_progS s n
theorem Sim.after {s t : HS} (h : Sim s t) (st : StrP s.prog) : ∀ n, Sim (s.after n) (t.after n)
  | 0 => h
  | n + 1 => ((Sim.after h st n).next (by rw [after_progS]; exact st)).1
theorem doneB_c {s : HS} : s.doneB = (decide (s.ent.2.c = 2) && decide (s.next.S.spent = 0)) := by
  unfold HS.doneB
  cases s.ent.2 <;> simp [MT.c]
theorem Sim.dones {s t : HS} (h : Sim s t) (st : StrP s.prog) : ∀ n, dnN t n = dnN s n
  | 0 => rfl
  | n + 1 => by
    have ih := h.dones st n
    have h1 := h.after st n
    obtain ⟨h2, h3⟩ := h1.next (by rw [after_progS]; exact st)
    show dnext (t.after n) (dnN t n) = dnext (s.after n) (dnN s n)
    rw [ih]
    funext r
    unfold dnext
    rw [doneB_c, doneB_c, h3, h2.spent, h1.row, h1.beats]
theorem sim0 {prog : List Row} {as : List (Int × Int)} {ks : List Wk} {ws1 ws2 : List Int} : Sim (HS.at0 prog as ks ws1) (HS.at0 prog as ks ws2) := ⟨rfl, rfl, rfl, rfl, rfl, rfl, rfl, rfl⟩
theorem row_step {s : HS} (O : HOk s) (st : StrP s.prog) : s.S.row ≤ s.next.S.row ∧ (s.S.row < s.prog.length → (s.doneB = true ↔ s.next.S.row ≠ s.S.row)) ∧ (s.S.row = s.prog.length → s.next.S.row = s.S.row ∧ s.doneB = false) := by
  have en : s.next.S = (mstep s.prog s.S s.dm.1 s.dm.2.1 s.dm.2.2.1).1 := rfl
  have ee : s.ent.2 = (mstep s.prog s.S s.dm.1 s.dm.2.1 s.dm.2.2.1).2.2.2 := rfl
  have hd : s.doneB = (decide ((mstep s.prog s.S s.dm.1 s.dm.2.1 s.dm.2.2.1).2.2.2.c = 2) && decide ((mstep s.prog s.S s.dm.1 s.dm.2.1 s.dm.2.2.1).1.spent = 0)) := by rw [doneB_c, en, ee]
  rw [en, hd]
  have r0 := O.m.row0
  have rn := O.m.rown
  have s0 := O.m.sp0
  have tk : ∀ (c : List Int) (ks : List Wk) (r : Row), s.prog[s.S.row.toNat]? = some r → s.S.row < s.prog.length → (∀ x, r ≠ .go x) → (∀ x y, r ≠ .iff x y) →
      s.S.row ≤ (tick s.prog.length { s.S with cells := c, spent := s.S.spent + 1 } ks r).1.row ∧ ((tick s.prog.length { s.S with cells := c, spent := s.S.spent + 1 } ks r).1.spent = 0 ↔ (tick s.prog.length { s.S with cells := c, spent := s.S.spent + 1 } ks r).1.row ≠ s.S.row) := by
    intro c ks r hr hlt g1 g2
    unfold tick
    split
    · cases r <;> first | exact absurd rfl (g1 _) | exact absurd rfl (g2 _ _) | exact ⟨by show s.S.row ≤ s.S.row + 1; omega, fun _ => (by show s.S.row + 1 ≠ s.S.row; omega), fun _ => rfl⟩ | exact ⟨by show s.S.row ≤ (s.prog.length : Int); omega, fun _ => (by show (s.prog.length : Int) ≠ s.S.row; omega), fun _ => rfl⟩
    · refine ⟨Int.le_refl _, ⟨fun h => ?_, fun h => absurd rfl h⟩⟩
      have h' : s.S.spent + 1 = 0 := h
      omega
  unfold mstep
  cases hr : s.prog[s.S.row.toNat]? with
  | none =>
    have hge : s.prog.length ≤ s.S.row.toNat := by simpa using hr
    refine ⟨Int.le_refl _, fun h => by omega, fun _ => ⟨rfl, rfl⟩⟩
  | some r =>
    have hlt : s.S.row < s.prog.length := by
      have := (List.getElem?_eq_some_iff.mp hr).1
      omega
    obtain ⟨g1, g2⟩ := st r (List.mem_of_getElem? hr)
    cases e1 : r.word s.S.spent s.S.cells with
    | none =>
      simp only [e1]
      obtain ⟨t1, t2⟩ := tk s.S.cells s.dm.1 r hr hlt g1 g2
      refine ⟨t1, fun _ => ?_, fun h => by omega⟩
      rw [Bool.and_eq_true, decide_eq_true_iff, decide_eq_true_iff]
      exact ⟨fun h => t2.mp h.2, fun h => ⟨rfl, t2.mpr h⟩⟩
    | some z1 =>
      obtain ⟨z1, p1, c1⟩ := z1
      simp only [e1]
      cases s.dm.2.1 with
      | true => exact ⟨Int.le_refl _, fun _ => ⟨(fun h => by cases h), fun h => absurd rfl h⟩, fun h => by omega⟩
      | false =>
        obtain ⟨t1, t2⟩ := tk (useW z1 p1 c1 s.S.cells s.dm.2.2.1).1 s.dm.1 r hr hlt g1 g2
        refine ⟨t1, fun _ => ?_, fun h => by omega⟩
        simp only [Bool.false_eq_true, if_false]
        rw [Bool.and_eq_true, decide_eq_true_iff, decide_eq_true_iff]
        exact ⟨fun h => t2.mp h.2, fun h => ⟨rfl, t2.mpr h⟩⟩
theorem dn_ahead {s : HS} (O : HOk s) (st : StrP s.prog) : ∀ (n : Nat) (i : Int), dnN s n i ≠ none → i < (s.after n).S.row
  | 0, i, h => absurd rfl h
  | n + 1, i, h => by
    have hs := row_step (O.after n) (by rw [after_progS]; exact st)
    show i < (s.after n).next.S.row
    have h' : dnext (s.after n) (dnN s n) i ≠ none := h
    unfold dnext at h'
    by_cases hc : (s.after n).doneB = true ∧ (s.after n).S.row = i
    · obtain ⟨c1, c2⟩ := hc
      have ip := hs.2.1
      rw [after_progS] at ip
      by_cases hl : (s.after n).S.row < s.prog.length
      · have := (ip hl).mp c1
        have := hs.1
        omega
      · have h3 := hs.2.2 (by have := (O.after n).m.rown; rw [after_progS] at this ⊢; omega)
        rw [c1] at h3
        cases h3.2
    · rw [if_neg hc] at h'
      have := dn_ahead O st n i h'
      have := hs.1
      omega
theorem dn_end {s : HS} (O : HOk s) (st : StrP s.prog) {n : Nat} (h : (s.after n).S.row = s.prog.length) : ∀ k, (s.after (n + k)).S.row = s.prog.length ∧ dnN s (n + k) = dnN s n
  | 0 => ⟨h, rfl⟩
  | k + 1 => by
    obtain ⟨h1, h2⟩ := dn_end O st h k
    have hs := (row_step (O.after (n + k)) (by rw [after_progS]; exact st)).2.2 (by rw [after_progS]; exact h1)
    refine ⟨?_, ?_⟩
    · show (s.after (n + k)).next.S.row = _
      rw [hs.1, h1]
    · show dnext (s.after (n + k)) (dnN s (n + k)) = _
      rw [h2]
      funext r
      unfold dnext
      rw [hs.2, if_neg (fun z => by cases z.1)]
end SB

set_option Elab.async false
set_option linter.all false
set_option maxRecDepth 100000
set_option maxHeartbeats 4000000
namespace SB
open PySem L2
theorem mm_modify {ks : List Wk} {n : Nat} : (ks.modify n Wk.start).map Wk.many = ks.map Wk.many := by
  refine List.ext_getElem? (fun j => ?_)
  rw [List.getElem?_map, List.getElem?_map, List.getElem?_modify]
  cases ks[j]? with
  | none => rfl
  | some k =>
    show some (Wk.many (if n = j then k.start else k)) = some k.many
    split
    · rw [start_many]
    · rfl
theorem mm_set {ks : List Wk} {n : Nat} {k k' : Wk} (h : ks[n]? = some k) (e : k'.many = k.many) : (ks.set n k').map Wk.many = ks.map Wk.many := by
  rw [List.map_set, e]
  exact set_same (by rw [List.getElem?_map, h]; rfl)
theorem mm_asks {b : Int} : ∀ {as : List (Int × Int)} {ks : List Wk}, (askAll b ks as).map Wk.many = ks.map Wk.many
  | [], ks => rfl
  | a :: r, ks => by
    show (askAll b (askOne b ks a) r).map Wk.many = _
    rw [mm_asks]
    unfold askOne
    split
    · exact mm_modify
    · rfl
theorem mm_dev {ks : List Wk} {took wanted : Bool} {ms : List Bool} {ws : List Int} : (devMove ks took wanted ms ws).1.map Wk.many = ks.map Wk.many := by
  unfold devMove
  cases ks.findIdx? (takes ms wanted took) with
  | none => rfl
  | some j =>
    cases hk : ks[j]? with
    | none => simp only [hk]
    | some k =>
      simp only [hk]
      split
      · exact mm_set hk (move_many k ws)
      · split
        · exact mm_set hk (move_many k ws)
        · rw [mm_modify]; exact mm_set hk (move_many k ws)
theorem mm_eff {n : Nat} {S : MS} {ks : List Wk} {r : Row} : (eff n S ks r).2.map Wk.many = ks.map Wk.many := by
  cases r <;> first | rfl | exact mm_modify
theorem mm_tick {n : Nat} {S : MS} {ks : List Wk} {r : Row} : (tick n S ks r).2.map Wk.many = ks.map Wk.many := by
  unfold tick
  split
  · exact mm_eff
  · rfl
theorem mm_mst {prog : List Row} {S : MS} {ks : List Wk} {took : Bool} {ws : List Int} : (mstep prog S ks took ws).2.1.map Wk.many = ks.map Wk.many := by
  unfold mstep
  cases prog[S.row.toNat]? with
  | none => rfl
  | some r =>
    cases hwd : r.word S.spent S.cells with
    | none => simp only [hwd]; exact mm_tick
    | some zz =>
      obtain ⟨z, p, cl⟩ := zz
      simp only [hwd]
      split
      · rfl
      · exact mm_tick
theorem mm_next {s : HS} : s.next.ks.map Wk.many = s.ks.map Wk.many := by
  show s.ms.2.1.map Wk.many = _
  unfold HS.ms
  rw [mm_mst]
  unfold HS.dm
  rw [mm_dev, mm_asks]
theorem mm_after (s : HS) : ∀ n, (s.after n).ks.map Wk.many = s.ks.map Wk.many
  | 0 => rfl
  | n + 1 => mm_next.trans (mm_after s n)
def HS.putB (s : HS) : Option Int := match s.ent.1 with
  | some (j, z, _, _) => if z = "put" then some j else none
  | none => none
def putN (ks : List Wk) (took wanted : Bool) (ms : List Bool) : Option Nat := match ks.findIdx? (takes ms wanted took) with
  | none => none
  | some j => match ks[j]? with
    | none => none
    | some k => if k.hand.isSome = true then some j else none
theorem putB_eq (s : HS) : s.putB = (putN (askAll s.beats s.ks s.asks) s.took (wantedOf s.prog s.S).isSome s.S.marks).map fun j => ((j : Nat) : Int) := by
  have e : s.ent.1 = s.dm.2.2.2 := rfl
  unfold HS.putB
  rw [e]
  unfold HS.dm devMove putN
  generalize askAll s.beats s.ks s.asks = ks
  cases ks.findIdx? (takes s.S.marks (wantedOf s.prog s.S).isSome s.took) with
  | none => rfl
  | some j =>
    cases hk : ks[j]? with
    | none => simp only [hk]; rfl
    | some k =>
      simp only [hk]
      unfold Wk.move
      cases k.hand with
      | none => rfl
      | some x => rfl
theorem KS.putN {a b : List Wk} (h : KS a b) (took wanted : Bool) (ms : List Bool) : SB.putN a took wanted ms = SB.putN b took wanted ms := by
  unfold SB.putN
  rw [h.find]
  cases b.findIdx? (takes ms wanted took) with
  | none => rfl
  | some j =>
    rcases h.at_ j with ⟨h1, h2⟩ | ⟨x, y, h1, h2, h3⟩
    · simp only [h1, h2]
    · simp only [h1, h2]
      have : x.hand.isSome = y.hand.isSome := by
        have := congrArg Wk.hand h3
        unfold sk at this
        cases hx : x.hand <;> cases hy : y.hand <;> simp_all
      rw [this]
theorem Sim.putB {s t : HS} (h : Sim s t) : t.putB = s.putB := by
  rw [putB_eq, putB_eq, h.beats, h.asks, h.took, h.marks]
  have e : (wantedOf t.prog t.S).isSome = (wantedOf s.prog s.S).isSome := by
    rw [wanted_isW, wanted_isW, h.prog, h.row]
  rw [e, (KS.asks h.ks).putN]
theorem dev_laid {g : LG} {ks : List Wk} {took wanted : Bool} {ms : List Bool} {ws : List Int} {when : Int} : match putN ks took wanted ms with
    | none => (g.dev ks took wanted ms ws when).laid = g.laid
    | some j => ∃ e p, (g.dev ks took wanted ms ws when).laid = g.laid ++ [(e, p, when, (j : Int))] := by
  unfold putN LG.dev
  cases hf : ks.findIdx? (takes ms wanted took) with
  | none => rfl
  | some j =>
    obtain ⟨hj, _, _⟩ := List.findIdx?_eq_some_iff_getElem.mp hf
    have hk : ks[j]? = some ks[j] := List.getElem?_eq_getElem hj
    generalize ks[j] = k at hk
    simp only [hk, wkAt_some hk]
    cases hh : k.hand with
    | none => rfl
    | some x =>
      show ∃ e p, (if k.laid + 1 < k.many then _ else _ : LG).laid = _
      refine ⟨g.ev.getD j 0, (k.goal + k.laid) % ws.length, ?_⟩
      split
      · rfl
      · split
        · rfl
        · rw [start_laid.1]
theorem mst_laid {g : LG} {prog : List Row} {S : MS} {ks : List Wk} {took : Bool} {ws : List Int} {when : Int} : (g.mst prog S ks took ws when).laid = g.laid := by
  have hfin : ∀ (g1 : LG) (row : Int), (g1.fin row when).laid = g1.laid := fun g1 row => by
    unfold LG.fin
    split <;> rfl
  have heff : ∀ (g1 : LG) (r : Row), (g1.eff ks r).laid = g1.laid := fun g1 r => by
    cases r with
    | ask x => exact start_laid.1
    | _ => rfl
  have htou : ∀ (r : Row), (g.touch r S ws when).laid = g.laid := fun r => by
    cases r with
    | pair a b =>
      show (if S.spent = 1 then _ else _ : LG).laid = _
      split <;> rfl
    | _ => rfl
  unfold LG.mst
  cases prog[S.row.toNat]? with
  | none => rfl
  | some r =>
    simp only
    split
    · rfl
    · split
      · rw [heff, hfin]
        split
        · exact htou r
        · rfl
      · split
        · exact htou r
        · rfl
theorem next_laid {s : HS} {g : LG} : match s.putB with
    | none => (LG.next s g).laid = g.laid
    | some j => ∃ e p, (LG.next s g).laid = g.laid ++ [(e, p, s.beats, j)] := by
  rw [putB_eq]
  have h := dev_laid (g := g.asks s.beats s.ks s.asks) (ks := askAll s.beats s.ks s.asks) (took := s.took) (wanted := (wantedOf s.prog s.S).isSome) (ms := s.S.marks) (ws := s.ws) (when := s.beats)
  rw [asks_laid.1] at h
  cases hp : putN (askAll s.beats s.ks s.asks) s.took (wantedOf s.prog s.S).isSome s.S.marks with
  | none =>
    rw [hp] at h
    show (LG.mst _ _ _ _ _ _ _).laid = _
    rw [mst_laid]
    exact h
  | some j =>
    rw [hp] at h
    obtain ⟨e, p, h⟩ := h
    refine ⟨e, p, ?_⟩
    show (LG.mst _ _ _ _ _ _ _).laid = _
    rw [mst_laid]
    exact h
def putsOf (s : HS) (j : Int) : Nat → List Int
  | 0 => []
  | n + 1 => putsOf s j n ++ (if (s.after n).putB = some j then [(s.after n).beats] else [])
def ofW (j : Int) (g : LG) : List Ld := g.laid.filter fun x => decide (x.2.2.2 = j)
theorem laid_puts {s : HS} {g : LG} (h0 : g.laid = []) (j : Int) : ∀ n, (ofW j (s.lafter g n)).map (fun x => x.2.2.1) = putsOf s j n
  | 0 => by
    unfold ofW
    show (g.laid.filter _).map _ = []
    rw [h0]
    rfl
  | n + 1 => by
    have ih := laid_puts (s := s) h0 j n
    have h := next_laid (s := s.after n) (g := s.lafter g n)
    show (ofW j (LG.next (s.after n) (s.lafter g n))).map _ = putsOf s j n ++ _
    rw [← ih]
    unfold ofW
    cases hp : (s.after n).putB with
    | none =>
      rw [hp] at h
      have h : (LG.next (s.after n) (s.lafter g n)).laid = _ := h
      rw [h, if_neg (by intro z; cases z), List.append_nil]
    | some j' =>
      rw [hp] at h
      obtain ⟨e, p, h⟩ := h
      rw [h, List.filter_append, List.map_append]
      congr 1
      by_cases hj : j' = j
      · subst hj
        rw [if_pos rfl, List.filter_cons_of_pos (by simp), List.filter_nil]
        rfl
      · rw [if_neg (fun z => hj (Option.some.inj z)), List.filter_cons_of_neg (by simpa using hj), List.filter_nil]
        rfl
theorem Sim.puts {s t : HS} (h : Sim s t) (st : StrP s.prog) (j : Int) : ∀ n, putsOf t j n = putsOf s j n
  | 0 => rfl
  | n + 1 => by
    show putsOf t j n ++ _ = putsOf s j n ++ _
    rw [Sim.puts h st j n, (h.after st n).putB, (h.after st n).beats]
def ovN (ks : List Wk) (s : HS) (n j : Nat) : Option Int := (putsOf s (j : Int) n)[(wkAt ks j).many.toNat - 1]?
def ovL (ks : List Wk) (s : HS) (n : Nat) : List (Option Int) := (List.range ks.length).map fun j => ovN ks s n j
def whole (ks : List Wk) (e : Go) : Bool := decide ((e.pu.length : Int) = (wkAt ks e.n).many)
def ovStep (ks : List Wk) (t : List (Option Int)) (e : Go) : List (Option Int) := if whole ks e = true ∧ t[e.n]? = some none then t.set e.n (e.pu.getLast?.map (·.1)) else t
def ovAt (ks : List Wk) (G : List Go) (j : Nat) : Option Int := (G.find? fun e => decide (e.n = j) && whole ks e).bind fun e => e.pu.getLast?.map (·.1)
theorem ov_fold {ks : List Wk} (mb : ∀ j, j < ks.length → 0 < (wkAt ks j).many) {j : Nat} (hj : j < ks.length) : ∀ (G : List Go) (t : List (Option Int)), t.length = ks.length → (G.foldl (ovStep ks) t)[j]? = match t[j]? with
    | some none => some (ovAt ks G j)
    | o => o
  | [], t, ht => by
    show t[j]? = _
    cases h : t[j]? with
    | none => rfl
    | some o => cases o <;> rfl
  | e :: r, t, ht => by
    have hlt : (ovStep ks t e).length = ks.length := by
      unfold ovStep
      split
      · rw [List.length_set]; exact ht
      · exact ht
    show (r.foldl (ovStep ks) (ovStep ks t e))[j]? = _
    rw [ov_fold mb hj r _ hlt]
    by_cases hc : whole ks e = true ∧ t[e.n]? = some none
    · have es : ovStep ks t e = t.set e.n (e.pu.getLast?.map (·.1)) := by unfold ovStep; rw [if_pos hc]
      rw [es]
      by_cases hn : e.n = j
      · subst hn
        rw [List.getElem?_set_self (by rw [ht]; exact hj), hc.2]
        have hw := hc.1
        have hlen : (e.pu.length : Int) = (wkAt ks e.n).many := by unfold whole at hw; simpa using hw
        have m0 := mb e.n hj
        obtain ⟨y, hy⟩ : ∃ y, e.pu.getLast? = some y := by
          cases hl : e.pu.getLast? with
          | none =>
            rw [List.getLast?_eq_none_iff.mp hl] at hlen
            simp at hlen
            omega
          | some y => exact ⟨y, rfl⟩
        have ef : ovAt ks (e :: r) e.n = e.pu.getLast?.map (·.1) := by
          unfold ovAt
          rw [List.find?_cons_of_pos (by rw [hw]; simp)]
          rfl
        rw [ef, hy]
        rfl
      · rw [gset_ne (fun z => hn z.symm)]
        have ef : ovAt ks (e :: r) j = ovAt ks r j := by
          unfold ovAt
          rw [List.find?_cons_of_neg (by rw [decide_eq_false hn]; simp)]
        rw [ef]
    · have es : ovStep ks t e = t := by unfold ovStep; rw [if_neg hc]
      rw [es]
      by_cases hn : e.n = j
      · subst hn
        cases h : t[e.n]? with
        | none => rfl
        | some o =>
          cases o with
          | some y => rfl
          | none =>
            have hw : ¬ whole ks e = true := fun z => hc ⟨z, h⟩
            have ef : ovAt ks (e :: r) e.n = ovAt ks r e.n := by
              unfold ovAt
              rw [List.find?_cons_of_neg (by simp [hw])]
            rw [ef]
      · have ef : ovAt ks (e :: r) j = ovAt ks r j := by
          unfold ovAt
          rw [List.find?_cons_of_neg (by rw [decide_eq_false hn]; simp)]
        rw [ef]
theorem ov_len {ks : List Wk} : ∀ (G : List Go) (t : List (Option Int)), (G.foldl (ovStep ks) t).length = t.length
  | [], t => rfl
  | e :: r, t => by
    show (r.foldl (ovStep ks) (ovStep ks t e)).length = _
    rw [ov_len]
    unfold ovStep
    split
    · rw [List.length_set]
    · rfl
theorem least_first {i : Int} : ∀ (L : List Ld), L.Pairwise (fun x y => x.1 ≤ y.1) → (∀ x ∈ L, i ≤ x.1) → L = L.filter (fun x => decide (x.1 = i)) ++ L.filter (fun x => !decide (x.1 = i))
  | [], _, _ => rfl
  | x :: r, hp, hi => by
    obtain ⟨h1, h2⟩ := List.pairwise_cons.mp hp
    by_cases hx : x.1 = i
    · rw [List.filter_cons_of_pos (by simpa using hx), List.filter_cons_of_neg (p := fun x : Ld => !decide (x.1 = i)) (by simp [hx]), List.cons_append, ← least_first r h2 (fun y hy => hi y (List.mem_cons_of_mem _ hy))]
    · have hlt : i < x.1 := by have := hi x List.mem_cons_self; omega
      have all : ∀ y ∈ x :: r, ¬ y.1 = i := fun y hy => by
        rcases List.mem_cons.mp hy with rfl | hy
        · exact hx
        · have := h1 y hy; omega
      have f1 : (x :: r).filter (fun x => decide (x.1 = i)) = [] := List.filter_eq_nil_iff.mpr (fun y hy => by simpa using all y hy)
      have f2 : (x :: r).filter (fun x => !decide (x.1 = i)) = x :: r := List.filter_eq_self.mpr (fun y hy => by simpa using all y hy)
      rw [f1, f2, List.nil_append]
theorem ov_at {ks ks' : List Wk} {g : LG} {h : GH} (c : Co ks' g h) (hm : ks'.map Wk.many = ks.map Wk.many) {j : Nat} (hj : j < ks.length) : ovAt ks h.G j = ((ofW (j : Int) g).map fun x => x.2.2.1)[(wkAt ks j).many.toNat - 1]? := by
  have many : ∀ (n : Nat) (k : Wk), ks'[n]? = some k → k.many = (wkAt ks n).many := fun n k hk => by
    have e : (ks'.map Wk.many)[n]? = (ks.map Wk.many)[n]? := by rw [hm]
    rw [List.getElem?_map, List.getElem?_map, hk] at e
    cases h2 : ks[n]? with
    | none => rw [h2] at e; cases e
    | some k2 =>
      rw [h2] at e
      rw [wkAt_some h2]
      exact Option.some.inj e
  have hlen : ks'.length = ks.length := by have := congrArg List.length hm; simpa using this
  have hj' : j < ks'.length := by omega
  have m0 : 0 < (wkAt ks j).many := by
    rw [← many j _ (List.getElem?_eq_getElem hj')]
    exact (c.ok.mb _ (List.getElem_mem hj')).1
  cases hf : h.G.findIdx? (fun e => decide (e.n = j)) with
  | none =>
    have hn : ∀ e ∈ h.G, ¬ e.n = j := fun e he => by
      have := List.findIdx?_eq_none_iff.mp hf e he
      simpa using this
    have e1 : ofW (j : Int) g = [] := List.filter_eq_nil_iff.mpr (fun x hx => by
      obtain ⟨i, e, _, e2, e3⟩ := c.wk x hx
      have := hn e (List.mem_of_getElem? e2)
      simp only [decide_eq_true_eq]
      omega)
    have e2 : h.G.find? (fun e => decide (e.n = j) && whole ks e) = none := List.find?_eq_none.mpr (fun e he => by simp [hn e he])
    unfold ovAt
    rw [e1, e2]
    rfl
  | some i =>
    obtain ⟨hi, hp, hmin⟩ := List.findIdx?_eq_some_iff_getElem.mp hf
    have hG : h.G[i]? = some h.G[i] := List.getElem?_eq_getElem hi
    generalize h.G[i] = e at hG hp
    have en : e.n = j := by simpa using hp
    have hmin : ∀ (i' : Nat) (e' : Go), h.G[i']? = some e' → e'.n = j → i ≤ i' := fun i' e' h1 h2 => by
      by_cases hlt : i' < i
      · have := hmin i' hlt
        have h3 := (List.getElem?_eq_some_iff.mp h1).2
        rw [h3] at this
        simp [h2] at this
      · omega
    have hL : (ofW (j : Int) g).Pairwise (fun x y => x.1 ≤ y.1) := by
      have h1 : (ofW (j : Int) g).Pairwise (fun x y => x.2.2.2 = y.2.2.2 → x.1 ≤ y.1) := c.so.filter _
      refine List.Pairwise.imp_of_mem (fun {a b} ha hb hab => ?_) h1
      have h2 : a.2.2.2 = (j : Int) := by simpa using (List.mem_filter.mp ha).2
      have h3 : b.2.2.2 = (j : Int) := by simpa using (List.mem_filter.mp hb).2
      exact hab (by rw [h2, h3])
    have hge : ∀ x ∈ ofW (j : Int) g, (i : Int) ≤ x.1 := fun x hx => by
      obtain ⟨h1, h2⟩ := List.mem_filter.mp hx
      have h2 : x.2.2.2 = (j : Int) := by simpa using h2
      obtain ⟨i', e', e1, e2, e3⟩ := c.wk x h1
      have := hmin i' e' e2 (by omega)
      omega
    have hA : (ofW (j : Int) g).filter (fun x => decide (x.1 = (i : Int))) = laidBy g i := by
      unfold ofW laidBy
      rw [List.filter_filter]
      refine List.filter_congr (fun x hx => ?_)
      by_cases hx1 : x.1 = (i : Int)
      · obtain ⟨i', e', e1, e2, e3⟩ := c.wk x hx
        have : i' = i := by omega
        subst this
        rw [hG] at e2
        cases e2
        rw [decide_eq_true hx1, Bool.true_and]
        exact decide_eq_true (by rw [e3, en])
      · rw [decide_eq_false hx1, Bool.false_and]
    have hsplit := least_first (i := (i : Int)) _ hL hge
    rw [hA] at hsplit
    have hpu := c.pu i e hG
    have htimes : (laidBy g i).map (fun x => x.2.2.1) = e.pu.map (·.1) := by
      rw [hpu, List.map_map]
      rfl
    obtain ⟨k, k1, k2⟩ := c.nc i e hG
    rw [en] at k1 k2
    have km := many j k k1
    by_cases hw : (e.pu.length : Int) = (wkAt ks j).many
    · have ef : h.G.find? (fun e => decide (e.n = j) && whole ks e) = some e := by
        refine List.find?_eq_some_iff_getElem.mpr ⟨?_, i, hi, ?_, fun i' hlt => ?_⟩
        · rw [decide_eq_true en, Bool.true_and]
          unfold whole
          rw [en]
          exact decide_eq_true hw
        · exact (List.getElem?_eq_some_iff.mp hG).2
        · have h1 : h.G[i']? = some h.G[i'] := List.getElem?_eq_getElem (by omega)
          have hne : ¬ (h.G[i']).n = j := fun z => by have := hmin i' _ h1 z; omega
          rw [decide_eq_false hne]
          rfl
      unfold ovAt
      rw [ef]
      show e.pu.getLast?.map (·.1) = _
      rw [hsplit, List.map_append, htimes, List.getElem?_append_left (by rw [List.length_map]; omega), List.getElem?_map, List.getLast?_eq_getElem?]
      congr 2
      omega
    · rcases k2 with k2 | k2
      · obtain ⟨_, e0, q1, q2, q3, q4, q5⟩ := c.ok.on j k i k1 k2
        rw [hG] at q1
        cases q1
        have only : ∀ (i' : Nat) (e' : Go), h.G[i']? = some e' → e'.n = j → i' = i := fun i' e' h1 h2 => by
          have := hmin i' e' h1 h2
          have := c.mx i i' j e' h1 h2 k2
          omega
        have e2 : h.G.find? (fun e => decide (e.n = j) && whole ks e) = none := List.find?_eq_none.mpr (fun e' he => by
          by_cases hn : e'.n = j
          · obtain ⟨i', hi'⟩ := List.getElem?_of_mem he
            have := only i' e' hi' hn
            subst this
            rw [hG] at hi'
            cases hi'
            unfold whole
            rw [en, decide_eq_false hw]
            simp
          · simp [hn])
        have e3 : (ofW (j : Int) g).filter (fun x => !decide (x.1 = (i : Int))) = [] := List.filter_eq_nil_iff.mpr (fun x hx => by
          obtain ⟨h1, h2⟩ := List.mem_filter.mp hx
          have h2 : x.2.2.2 = (j : Int) := by simpa using h2
          obtain ⟨i', e', e1, e2, e3⟩ := c.wk x h1
          have := only i' e' e2 (by omega)
          subst this
          simp [e1])
        unfold ovAt
        rw [e2, hsplit, e3, List.append_nil, htimes, List.getElem?_map, List.getElem?_eq_none (by omega)]
        rfl
      · exact absurd (k2.trans km) hw
theorem ov_all {prog : List Row} {as : List (Int × Int)} {ks : List Wk} {ws : List Int} (hk : ∀ k ∈ ks, WOk ks.length k) (n : Nat) : ((HS.at0 prog as ks ws).gafter (GH.none ks.length) n).G.foldl (ovStep ks) (List.replicate ks.length none) = ovL ks (HS.at0 prog as ks ws) n := by
  have c := (Co.at0 (prog := prog) (as := as) (ws := ws) hk).after n
  have hm : ((HS.at0 prog as ks ws).after n).ks.map Wk.many = ks.map Wk.many := by
    rw [mm_after]
    show (ks.map Wk.fresh).map Wk.many = _
    rw [List.map_map]
    rfl
  have mb : ∀ j, j < ks.length → 0 < (wkAt ks j).many := fun j hj => by
    have e : ks[j]? = some ks[j] := List.getElem?_eq_getElem hj
    rw [wkAt_some e]
    have := (hk _ (List.getElem_mem hj)).m.1
    omega
  have lenf : ∀ (G : List Go) (t : List (Option Int)), (G.foldl (ovStep ks) t).length = t.length := fun G => by
    induction G with
    | nil => exact fun t => rfl
    | cons e r ih =>
      intro t
      show (r.foldl (ovStep ks) (ovStep ks t e)).length = _
      rw [ih]
      unfold ovStep
      split
      · rw [List.length_set]
      · rfl
  refine List.ext_getElem? (fun j => ?_)
  by_cases hj : j < ks.length
  · rw [ov_fold mb hj _ _ List.length_replicate, List.getElem?_replicate, if_pos hj]
    show some (ovAt ks _ j) = _
    rw [ov_at c hm hj, laid_puts rfl (j : Int) n]
    unfold ovL ovN
    rw [List.getElem?_map, List.getElem?_range hj]
    rfl
  · rw [List.getElem?_eq_none (by rw [lenf, List.length_replicate]; omega), List.getElem?_eq_none (by unfold ovL; rw [List.length_map, List.length_range]; omega)]
theorem ovN_step {ks : List Wk} {s : HS} {n j : Nat} (m0 : 0 < (wkAt ks j).many) : ovN ks s (n + 1) j = if (s.after n).putB = some (j : Int) ∧ ovN ks s n j = none ∧ ((putsOf s (j : Int) (n + 1)).length : Int) = (wkAt ks j).many then some (s.after n).beats else ovN ks s n j := by
  have e : putsOf s (j : Int) (n + 1) = putsOf s (j : Int) n ++ (if (s.after n).putB = some (j : Int) then [(s.after n).beats] else []) := rfl
  unfold ovN
  rw [e]
  generalize putsOf s (j : Int) n = L
  by_cases hp : (s.after n).putB = some (j : Int)
  · rw [if_pos hp]
    by_cases hl : L.length < (wkAt ks j).many.toNat
    · have e1 : L[(wkAt ks j).many.toNat - 1]? = none := List.getElem?_eq_none (by omega)
      by_cases hq : L.length + 1 = (wkAt ks j).many.toNat
      · rw [if_pos ⟨hp, e1, by rw [List.length_append]; simp only [List.length_cons, List.length_nil]; omega⟩, List.getElem?_append_right (by omega), show (wkAt ks j).many.toNat - 1 - L.length = 0 by omega]
        rfl
      · rw [if_neg (fun z => hq (by have := z.2.2; rw [List.length_append] at this; simp only [List.length_cons, List.length_nil] at this; omega)), e1]
        exact List.getElem?_eq_none (by rw [List.length_append]; simp only [List.length_cons, List.length_nil]; omega)
    · rw [List.getElem?_append_left (by omega), if_neg (fun z => by
        have := z.2.1
        rw [List.getElem?_eq_none_iff] at this
        omega)]
  · rw [if_neg hp, List.append_nil, if_neg (fun z => hp z.1)]
end SB

set_option Elab.async false
set_option linter.all false
set_option maxRecDepth 100000
set_option maxHeartbeats 4000000
namespace SB
open PySem L2
def pq5 (y : Pq) : Int × Int × Int × Int × Int := (y.1, y.2.1.2, y.2.1.1, y.2.2.2, y.2.2.1)
structure PC (s : HS) (g : LG) (wp : WP) : Prop where
  pr : g.pairs = wp.pr.map pq5
  fg : ∀ a c, s.prog[s.S.row.toNat]? = some (.pair a c) → s.S.spent = 1 → wp.fg = some (g.half, c % s.ws.length)
  rg : ∀ y ∈ wp.pr, (0 ≤ y.2.1.2 ∧ y.2.1.2 < s.ws.length) ∧ 0 ≤ y.2.2.2 ∧ y.2.2.2 < s.ws.length
theorem ws_next {s : HS} : s.next.ws.length = s.ws.length := by
  show s.ms.2.2.1.length = _
  unfold HS.ms
  rw [mstep_len.2]
  unfold HS.dm
  rw [devMove_len.2]
theorem fin_ph {g : LG} {row when : Int} : (g.fin row when).pairs = g.pairs ∧ (g.fin row when).half = g.half := by
  unfold LG.fin
  split <;> exact ⟨rfl, rfl⟩
theorem eff_ph {g : LG} {ks : List Wk} {r : Row} : (g.eff ks r).pairs = g.pairs ∧ (g.eff ks r).half = g.half := by
  cases r with
  | ask x => exact ⟨start_laid.2.1, start_laid.2.2.2⟩
  | _ => exact ⟨rfl, rfl⟩
theorem mst_other {g : LG} {prog : List Row} {S : MS} {ks : List Wk} {took : Bool} {ws : List Int} {when : Int} (h : ∀ a c, prog[S.row.toNat]? ≠ some (.pair a c)) : (g.mst prog S ks took ws when).pairs = g.pairs := by
  unfold LG.mst
  cases hr : prog[S.row.toNat]? with
  | none => rfl
  | some r =>
    have ht : (g.touch r S ws when).pairs = g.pairs := by
      cases r with
      | pair a c => exact absurd hr (h a c)
      | _ => rfl
    simp only
    split
    · rfl
    · split
      · rw [eff_ph.1, fin_ph.1]
        split
        · exact ht
        · rfl
      · split
        · exact ht
        · rfl
theorem PC.next {s : HS} {g : LG} {wp : WP} (O : HOk s) (c : PC s g wp) : PC s.next (LG.next s g) (wpnext s wp) := by
  have e2 : s.next.S = s.ms.1 := rfl
  have a1 := asks_laid (b := s.beats) (as := s.asks) (ks := s.ks) (g := g)
  have d1 := dev_half (g := g.asks s.beats s.ks s.asks) (ks := askAll s.beats s.ks s.asks) (took := s.took) (wanted := (wantedOf s.prog s.S).isSome) (ms := s.S.marks) (ws := s.ws) (n := s.beats)
  have hl : s.dm.2.2.1.length = s.ws.length := by unfold HS.dm; exact devMove_len.2
  have g2p := d1.2.1.trans a1.2.1
  have g2h := d1.1.trans a1.2.2.2
  have eL : LG.next s g = ((g.asks s.beats s.ks s.asks).dev (askAll s.beats s.ks s.asks) s.took (wantedOf s.prog s.S).isSome s.S.marks s.ws s.beats).mst s.prog s.S s.dm.1 s.dm.2.1 s.dm.2.2.1 s.beats := rfl
  rw [eL]
  generalize (g.asks s.beats s.ks s.asks).dev (askAll s.beats s.ks s.asks) s.took (wantedOf s.prog s.S).isSome s.S.marks s.ws s.beats = g2 at g2p g2h
  by_cases hpair : ∃ a c', s.prog[s.S.row.toNat]? = some (.pair a c')
  · obtain ⟨a, cc, hr⟩ := hpair
    have em : g2.mst s.prog s.S s.dm.1 s.dm.2.1 s.dm.2.2.1 s.beats = if s.dm.2.1 = true then g2 else if s.S.spent + 1 = 2 then (((g2.touch (.pair a cc) s.S s.dm.2.2.1 s.beats).fin s.S.row s.beats).eff s.dm.1 (.pair a cc)) else g2.touch (.pair a cc) s.S s.dm.2.2.1 s.beats := by
      unfold LG.mst
      simp only [hr]
      have e : (Row.pair a cc).isW = true := rfl
      simp only [e, true_and, if_true]
      rfl
    have et : g2.touch (.pair a cc) s.S s.dm.2.2.1 s.beats = if s.S.spent = 1 then { g2 with half := s.beats, pairs := g2.pairs ++ [(s.S.row, cc % s.ws.length, g2.half, (cc + 1) % s.ws.length, s.beats)] } else { g2 with half := s.beats } := by
      rw [← hl]
      rfl
    have sp0 := O.m.sp0
    have sp1 : s.S.spent < 2 := O.m.sp1 _ hr
    rcases pair_ms hr with ⟨k0, k1, k2⟩ | ⟨k0, ⟨v, k1⟩, k2, k3⟩
    · rw [em, k0, if_pos rfl, wp_keep (.inl k1)]
      refine ⟨g2p.trans c.pr, fun a' c' h1 h2 => ?_, by rw [ws_next]; exact c.rg⟩
      rw [g2h, ws_next]
      rw [k2] at h1 h2
      exact c.fg a' c' h1 h2
    · rw [em, k0, if_neg (by decide), wp_pair hr k1, et]
      by_cases q : s.S.spent = 1
      · have q2 : s.S.spent + 1 = 2 := by omega
        rw [if_pos q2] at k2
        rw [if_pos q2, if_pos q]
        have hfg := c.fg a cc hr q
        have en : wp.note s.S.row s.beats ((cc + s.S.spent) % s.ws.length) (decide (s.next.S.spent = 0)) = { wp with pr := wp.pr ++ [(s.S.row, (g.half, cc % s.ws.length), (s.beats, (cc + 1) % s.ws.length))] } := by
          unfold WP.note
          rw [decide_eq_true k2, if_pos rfl, hfg, q]
          rfl
        rw [en]
        refine ⟨?_, fun a' c' h1 h2 => ?_, fun y hy => ?_⟩
        · rw [eff_ph.1, fin_ph.1]
          show g2.pairs ++ [_] = (wp.pr ++ [_]).map pq5
          rw [List.map_append, g2p, c.pr, g2h]
          rfl
        · rw [k2] at h2
          exact absurd h2 (by decide)
        · rw [ws_next]
          rcases List.mem_append.mp hy with z | z
          · exact c.rg y z
          · have ey : y = (s.S.row, (g.half, cc % s.ws.length), (s.beats, (cc + 1) % s.ws.length)) := by simpa using z
            rw [ey]
            exact ⟨mod_rg O.w0, mod_rg O.w0⟩
      · have q2 : ¬ s.S.spent + 1 = 2 := by omega
        rw [if_neg q2] at k2
        rw [if_neg q2, if_neg q]
        have hn : ¬ s.next.S.spent = 0 := by rw [k2]; omega
        have en : wp.note s.S.row s.beats ((cc + s.S.spent) % s.ws.length) (decide (s.next.S.spent = 0)) = { wp with fg := some (s.beats, cc % s.ws.length) } := by
          unfold WP.note
          have q0 : s.S.spent = 0 := by omega
          rw [decide_eq_false hn, if_neg (by decide), q0]
          simp
        rw [en]
        refine ⟨g2p.trans c.pr, fun a' c' h1 h2 => ?_, by rw [ws_next]; exact c.rg⟩
        have h1 : s.prog[s.next.S.row.toNat]? = _ := h1
        rw [k3 q2, hr] at h1
        cases h1
        rw [ws_next]
  · have hne : ∀ a c', s.prog[s.S.row.toNat]? ≠ some (.pair a c') := fun a c' z => hpair ⟨a, c', z⟩
    have ew : wpnext s wp = wp := by
      unfold wpnext
      split
      · rename_i a c' e
        exact absurd e (hne _ _)
      · rfl
    rw [ew]
    refine ⟨(mst_other hne).trans (g2p.trans c.pr), fun a' c' h1 h2 => ?_, by rw [ws_next]; exact c.rg⟩
    exfalso
    /- behind a row that is no pair none is half done -/
    have F0 : Fgi s ⟨[], none⟩ := fun a c'' z => absurd z (hne _ _)
    have F1 := F0.next
    have ew0 : wpnext s ⟨[], none⟩ = ⟨[], none⟩ := by
      unfold wpnext
      split
      · rename_i a c' e
        exact absurd e (hne _ _)
      · rfl
    rw [ew0] at F1
    exact F1 a' c' h1 h2 rfl
theorem PC.after {s : HS} {g : LG} (O : HOk s) (c : PC s g WP.nil) : ∀ n, PC (s.after n) (s.lafter g n) (wpN s n)
  | 0 => c
  | n + 1 => (PC.after O c n).next (O.after n)
theorem PC.at0 {prog : List Row} {as : List (Int × Int)} {ks : List Wk} {ws : List Int} {a b : Nat} : PC (HS.at0 prog as ks ws) (LG.none a b) WP.nil := ⟨rfl, fun a c _ h => absurd (show (0 : Int) = 1 from h) (by decide), fun y hy => by cases hy⟩
def laysAt (k : Wk) (ad : Int) (size : Nat) : Bool := decide ((ad - k.goal) % (size : Int) < k.many)
def cntOf (pu : List (Int × Int)) (got : Int × Int) : Nat := (pu.filter fun p => decide (p.2 = got.2) && decide (p.1 < got.1)).length
def tornB (ks : List Wk) (size : Nat) (y : Pq) (e : Go) : Bool := laysAt (wkAt ks e.n) y.2.1.2 size && (laysAt (wkAt ks e.n) y.2.2.2 size && !decide (cntOf e.pu y.2.1 = cntOf e.pu y.2.2))
def tornY (ks : List Wk) (size : Nat) (G : List Go) (y : Pq) : List (Int × Int × Int) := (G.filter (tornB ks size y)).map fun e => (y.1, y.2.2.1, (e.n : Int))
def tornsL (ks : List Wk) (size : Nat) (G : List Go) (ys : List Pq) : List (Int × Int × Int) := (ys.map (tornY ks size G)).flatten
theorem tornY_snoc {ks : List Wk} {size : Nat} {G : List Go} {y : Pq} {e : Go} : tornY ks size (G ++ [e]) y = tornY ks size G y ++ (if tornB ks size y e = true then [(y.1, y.2.2.1, (e.n : Int))] else []) := by
  unfold tornY
  rw [List.filter_append, List.map_append]
  congr 1
  by_cases h : tornB ks size y e = true
  · rw [if_pos h, List.filter_cons_of_pos h, List.filter_nil]
    rfl
  · rw [if_neg h, List.filter_cons_of_neg h, List.filter_nil]
    rfl
theorem tornsL_snoc {ks : List Wk} {size : Nat} {G : List Go} {ys : List Pq} {y : Pq} : tornsL ks size G (ys ++ [y]) = tornsL ks size G ys ++ tornY ks size G y := by
  unfold tornsL
  rw [List.map_append, List.flatten_append]
  simp
theorem cnt_none {got : Int × Int} : cntOf [] got = 0 := rfl
theorem torn_none {ks : List Wk} {size : Nat} {y : Pq} {e : Go} (h : e.pu = []) : tornB ks size y e = false := by
  unfold tornB
  rw [h, cnt_none, cnt_none]
  simp
theorem in_goals {goal many a : Int} {size : Nat} (h0 : 0 ≤ a) (h1 : a < size) (m0 : 0 ≤ many) : a ∈ ((List.range many.toNat).map fun k : Nat => (goal + (k : Int)) % (size : Int)) ↔ (a - goal) % (size : Int) < many := by
  have hs : (0 : Int) < size := by omega
  rw [List.mem_map]
  constructor
  · rintro ⟨k, hk, e⟩
    have hk := List.mem_range.mp hk
    rw [← e]
    have e2 : ((goal + (k : Int)) % (size : Int) - goal) % (size : Int) = (k : Int) % (size : Int) := by
      rw [Int.sub_emod, Int.emod_emod, ← Int.sub_emod]
      congr 1
      omega
    rw [e2]
    by_cases hks : (k : Int) < size
    · rw [Int.emod_eq_of_lt (by omega) hks]
      omega
    · have := Int.emod_lt_of_pos (k : Int) hs
      omega
  · intro h
    have hp := Int.emod_nonneg (a - goal) (Int.ne_of_gt hs)
    refine ⟨((a - goal) % (size : Int)).toNat, List.mem_range.mpr (by omega), ?_⟩
    rw [Int.toNat_of_nonneg hp, Int.add_emod, Int.emod_emod, ← Int.add_emod]
    have e3 : goal + (a - goal) = a := by omega
    rw [e3]
    exact Int.emod_eq_of_lt h0 h1
theorem cnt_laid {ks : List Wk} {g : LG} {h : GH} (c : Co ks g h) {i : Nat} {e : Go} (he : h.G[i]? = some e) (got : Int × Int) : ((laidBy g i).filter fun x => decide (x.2.1 = got.2) && decide (x.2.2.1 < got.1)).length = cntOf e.pu got := by
  unfold cntOf
  rw [c.pu i e he, List.filter_map, List.length_map]
  rfl
end SB

set_option Elab.async false
set_option linter.all false
set_option maxRecDepth 100000
set_option maxHeartbeats 2000000
namespace SB
open PySem L2
section
variable {P : Program} {w : World} {K : PySem.W.Frag} {mg : Str → Option Value} {base : Heap} {H H' : Hp} {as : List Addr}
variable {a : HA} {s : HS} {g : GH} {R : Addr} {xs : List V}
def sp_check_beats (K : PySem.W.Frag) : Sp := fun vs H Q _ => ∃ n : Int, vs = [.int n] ∧ rg 0 300 n ∧ Q .non H
structure RanAt (H H' : Hp) (p l q c w' k g : Addr) (ps gs : List Addr) (s : HS) (n : Nat) : Prop where
  tup : H' p = some (.tup [.ref l, .ref q])
  log : LogAt H' l ps (s.log n)
  sh : ShownAt H H' q c w' k g gs (s.after n)
  np : H p = none
  nl : H l = none
  lq : l ∉ [c, w', k, g]
def sp_run (K : PySem.W.Frag) : Sp := fun vs H Q _ => ∃ (pa wl ml al : Addr) (rs ts qs : List Addr) (prog : List Row) (ks : List Wk) (ws : List Int) (as : List (Int × Int)) (n : Int), vs = [.ref pa, .ref wl, .ref ml, .ref al, .int n] ∧
  ProgAt K H pa rs prog ∧ 0 < prog.length ∧ prog.length ≤ 40 ∧ (∀ r ∈ prog, r.ok prog.length) ∧ WorksAt K H wl ts ks ∧ ks.length ≤ 6 ∧ (∀ k ∈ ks, WOk ks.length k) ∧ SqL K H ml (ws.map V.int) ∧ 4 ≤ ws.length ∧ ws.length ≤ 32 ∧ (∀ x ∈ ws, rg 0 999 x) ∧ AsksAt K H al qs as ∧ AOk ks.length as ∧ rg 0 300 n ∧
  ∀ H' p l q c w' k g ps gs, RanAt H H' p l q c w' k g ps gs (HS.at0 prog as ks ws) n.toNat → Same H H' → Q (.ref p) H'
end
end SB

set_option Elab.async false
set_option linter.all false
set_option maxRecDepth 100000
set_option maxHeartbeats 2000000
namespace SB
open PySem L2
theorem at_ixG {ps : List Addr} {b : Nat} {p : Addr} (h : ps[b]? = some p) : atI (ps.map V.ref) (b : Int) = some (.ref p) := by
  have hb := (List.getElem?_eq_some_iff.mp h).1
  unfold atI ixN
  rw [if_pos (by omega), if_pos (by rw [List.length_map]; omega)]
  show (ps.map V.ref)[((b : Nat) : Int).toNat]? = _
  rw [Int.toNat_natCast, List.getElem?_map, h]
  rfl
def t3V (x : Int × Int × Int) : List V := [.int x.1, .int x.2.1, .int x.2.2]
def PairAt (H : Hp) (p : Addr) (y : Pq) : Prop := ∃ t1 t2, H p = some (.tup [.int y.1, .ref t1, .ref t2]) ∧ H t1 = some (.tup [.int y.2.1.1, .int y.2.1.2]) ∧ H t2 = some (.tup [.int y.2.2.1, .int y.2.2.2])
def GoAt (K : PySem.W.Frag) (H : Hp) (p : Addr) (e : Go) : Prop := ∃ dg pl ps, H p = some (.ins (cGoing K) dg (ggF ⟨(e.n : Int), e.hand, pl⟩)) ∧ TupsAt H pl ps (e.pu.map puV)
section
variable {P : Program} {w : World} {K : PySem.W.Frag} {mg : Str → Option Value} {base : Heap} {H H' : Hp}
theorem GoAt.same {p : Addr} {e : Go} (h : GoAt K H p e) (s : Same H H') : GoAt K H' p e := let ⟨dg, pl, ps, h1, h2⟩ := h; ⟨dg, pl, ps, s _ _ h1, h2.keep s⟩
theorem PairAt.same {p : Addr} {y : Pq} (h : PairAt H p y) (s : Same H H') : PairAt H' p y := let ⟨t1, t2, h1, h2, h3⟩ := h; ⟨t1, t2, s _ _ h1, s _ _ h2, s _ _ h3⟩
def sp_lays_at (K : PySem.W.Frag) : Sp := fun vs H Q _ => ∃ (t : Addr) (k : Wk) (a : Int) (size : Nat), vs = [.ref t, .int a, .int (size : Int)] ∧ SqT K H t k.vs ∧ 0 < size ∧ Q (.bl (laysAt k a size)) H
theorem ok_lays_at (T : T w K mg) : FnR P w K mg base CX0 1 (He.ga K "lays_at") (sp_lays_at K) := by
  obtain ⟨fd, F⟩ := T.f_lays_at
  refine F.r sc_lays_at (fun _ _ _ _ _ _ us hl => match us, hl with | [_, _, _], _ => rfl) (fun vs H Q E h => ?_) (fun cdv A outer s0 H vs Q E hr h => ?_)
  · obtain ⟨_, _, _, _, rfl, _⟩ := h
    rfl
  · obtain ⟨t, k, a, size, rfl, ht, h0, q⟩ := h
    refine ⟨_, (pss_cons (ps_par rfl sc_lays_at.nd (i := 3) (j := 4) rfl rfl (by decide) rfl rfl (pa_cons (pe_ix ix_tup (pv 0) pe_int (fun _ _ => rfl)) (pa_cons (pe_ix ix_tup (pv 0) pe_int (fun _ _ => rfl)) pa_nil)) rfl)
  (pss_one (ps_ret (pe_cmpR op_lt (pe_op op_mod (pe_op op_sub (pv 1) (pv 3)) (pv 2)) (pv 4) (nomark _))))), ?_⟩
    refine ⟨_, rfl, _, _, _, _, rfl, rfl, ht, rfl, _, rfl, _, _, _, _, rfl, rfl, ht, rfl, _, _, rfl, ?_⟩
    refine ⟨_, rfl, _, rfl, _, _, rfl, rfl, _, rfl, _, _, rfl, rfl, (by omega), _, rfl, _, _, rfl, rfl, ?_⟩
    exact q
def sp_laid_ahead (K : PySem.W.Frag) : Sp := fun vs H Q _ => ∃ (gg t : Addr) (e : Go) (got : Int × Int), vs = [.ref gg, .ref t] ∧ GoAt K H gg e ∧ e.pu.length ≤ 1000 ∧ H t = some (.tup [.int got.1, .int got.2]) ∧ ∀ H', Same H H' → Q (.int (cntOf e.pu got : Nat)) H'
theorem ok_laid_ahead (T : T w K mg) : FnR P w K mg base CX0 1 (He.ga K "laid_ahead") (sp_laid_ahead K) := by
  obtain ⟨fd, F⟩ := T.f_laid_ahead
  refine F.r sc_laid_ahead (fun _ _ _ _ _ _ us hl => match us, hl with | [_, _], _ => rfl) (fun vs H Q E h => ?_) (fun cdv A outer s0 H vs Q E hr h => ?_)
  · obtain ⟨_, _, _, _, rfl, _⟩ := h
    rfl
  · obtain ⟨gg, t, e, got, rfl, ⟨dg, pl, ps, hg, tp⟩, l1000, ht, q⟩ := h
    refine ⟨_, (pss_cons (ps_asg (pv 1) (pg_tup rfl (pgs_cons (pg_name (i := 2) sc_laid_ahead.nd rfl (Or.inr rfl)) (pgs_cons (pg_name (i := 3) sc_laid_ahead.nd rfl (Or.inr rfl)) pgs_nil))))
  (pss_one (ps_ret (pe_callB call_len_seq rfl T.u_len PySem.boot_len (pa_cons (pe_lc (own := [("at", 4), ("place", 5)]) (g := gTup K 2 (gCons (gName 4) (gCons (gName 5) gNil)))
      (tt := tAnd (tTest (tOp rEq (tVar 5) (tVar 3))) (tTest (tOp (rI0 fun i j => .bl (decide (i < j))) (tVar 4) (tVar 2)))) (te := tVar 4) rfl sc_laid_ahead.nd
      (pi_list (pe_fld (pv 0) rfl))
      (blkOk_by (N := ["going", "got", "when", "address", "at", "place"]) (sc := defScope s_laid_ahead) (by decide +kernel))
      (fun _ _ _ _ _ => pg_tup rfl (pgs_cons (pg_name (i := 4) sc_laid_ahead.nd rfl (Or.inl rfl)) (pgs_cons (pg_name (i := 5) sc_laid_ahead.nd rfl (Or.inl rfl)) pgs_nil)))
      (fun _ _ _ _ _ => pts_one (PW.pt (pw_and (pt_cmpR op_eq (pv 5) (pv 3) (nomark _)) (pw_and1 (pt_cmpR op_lt (pv 4) (pv 2) (nomark _))))))
      (fun _ _ _ _ _ => pv 4)) pa_nil))))), ?_⟩
    refine ⟨_, rfl, t, _, rfl, SqT.of ht, rfl, _, _, rfl, _, _, rfl, rfl, ?_⟩
    refine ⟨_, rfl, _, _, _, _, _, rfl, hg, T.cl_Going, T.n_Going_puts, gg_puts _, pl, rfl, ⟨_, SqL.of tp.lst⟩, fun R nR => ?_⟩
    refine lc_list (K := K) (a := pl) (xs := ps.map V.ref) (fun i H3 => ∃ us : List V, H3 R = some (.lst us) ∧ us.length = ((e.pu.take i).filter fun p => decide (p.2 = got.2) && decide (p.1 < got.1)).length ∧ Same H H3)
      ⟨[], upd_same, rfl, Same.new (Same.refl _) nR⟩ (fun i H3 _ ⟨_, _, _, s⟩ => SqL.of (s _ _ tp.lst)) ?_ ?_
    · rintro i x H3 hx ⟨us, hR, lu, s3⟩
      rw [List.getElem?_map] at hx
      cases hp : ps[i]? with
      | none => rw [hp] at hx; cases hx
      | some p =>
        rw [hp] at hx
        cases hx
        have hi : i < e.pu.length := by
          have := (List.getElem?_eq_some_iff.mp hp).1
          rw [tp.len, List.length_map] at this
          exact this
        obtain ⟨x, hx⟩ : ∃ x, e.pu[i]? = some x := ⟨_, List.getElem?_eq_getElem hi⟩
        have h3 := s3 _ _ (tp.at_ i p (puV x) hp (by rw [List.getElem?_map, hx]; rfl))
        have et : e.pu.take (i + 1) = e.pu.take i ++ [x] := by rw [List.take_add_one, hx]; rfl
        have ul : us.length ≤ 1000 := by
          rw [lu]
          have h1 : ((e.pu.take i).filter fun p => decide (p.2 = got.2) && decide (p.1 < got.1)).length ≤ (e.pu.take i).length := List.length_filter_le _ _
          rw [List.length_take] at h1
          omega
        refine ⟨p, _, rfl, SqT.of h3, rfl, _, _, rfl, _, _, rfl, rfl, by kernel_rfl, ?_⟩
        have key : ∀ σ9 : L2.St, σ9[2]? = some (some (.int got.1)) → σ9[3]? = some (some (.int got.2)) → σ9[4]? = some (some (.int x.1)) → σ9[5]? = some (some (.int x.2)) →
            tAnd (tTest (tOp rEq (tVar 5) (tVar 3))) (tTest (tOp (rI0 fun i j => .bl (decide (i < j))) (tVar 4) (tVar 2))) σ9 H3 (fun b H4 => if b = true then tVar 4 σ9 H4 (fun y H5 => ∃ acc, H5 R = some (.lst acc) ∧ acc.length < sizeLine ∧ ∃ us : List V, upd H5 R (.lst (acc ++ [y])) R = some (.lst us) ∧ us.length = ((e.pu.take (i + 1)).filter fun p => decide (p.2 = got.2) && decide (p.1 < got.1)).length ∧ Same H (upd H5 R (.lst (acc ++ [y])))) else ∃ us : List V, H4 R = some (.lst us) ∧ us.length = ((e.pu.take (i + 1)).filter fun p => decide (p.2 = got.2) && decide (p.1 < got.1)).length ∧ Same H H4) := by
          intro σ9 v2 v3 v4 v5
          have skip : (decide (x.2 = got.2) && decide (x.1 < got.1)) = false → ∃ us : List V, H3 R = some (.lst us) ∧ us.length = ((e.pu.take (i + 1)).filter fun p => decide (p.2 = got.2) && decide (p.1 < got.1)).length ∧ Same H H3 := fun ee => by
            refine ⟨us, hR, ?_, s3⟩
            rw [et, List.filter_append, List.filter_cons_of_neg (by rw [ee]; decide), List.filter_nil, List.append_nil]
            exact lu
          refine ⟨_, v5, _, v3, rfl, _, rfl, ?_⟩
          rw [dec_int']
          by_cases ha : x.2 = got.2
          · rw [decide_eq_true ha]
            refine iteT ⟨_, v4, _, v2, _, _, rfl, rfl, _, rfl, ?_⟩
            by_cases hb : x.1 < got.1
            · rw [decide_eq_true hb]
              refine iteT ⟨_, v4, us, hR, Nat.lt_of_le_of_lt ul (by decide), _, upd_same, ?_, Same.new s3 nR⟩
              rw [et, List.filter_append, List.filter_cons_of_pos (by rw [decide_eq_true ha, decide_eq_true hb]; rfl), List.filter_nil, List.length_append, List.length_append, lu]
              rfl
            · rw [decide_eq_false hb]
              exact iteF (skip (by rw [decide_eq_false hb, Bool.and_false]))
          · rw [decide_eq_false ha]
            exact iteF (iteF (skip (by rw [decide_eq_false ha, Bool.false_and])))
        exact key _ (by kernel_rfl) (by kernel_rfl) (by kernel_rfl) (by kernel_rfl)
    · rintro H3 ⟨us, hR, lu, s3⟩
      rw [List.length_map, tp.len, List.length_map, List.take_length] at lu
      refine ⟨_, _, rfl, .inl (SqL.of hR), ?_⟩
      rw [lu]
      exact q _ s3
def sp_is_torn (K : PySem.W.Frag) : Sp := fun vs H Q _ => ∃ (p gg t : Addr) (y : Pq) (e : Go) (k : Wk) (size : Nat), vs = [.ref p, .ref gg, .ref t, .int (size : Int)] ∧ PairAt H p y ∧ GoAt K H gg e ∧ e.pu.length ≤ 1000 ∧ SqT K H t k.vs ∧ 0 < size ∧
  ∀ H', Same H H' → Q (.bl (laysAt k y.2.1.2 size && (laysAt k y.2.2.2 size && !decide (cntOf e.pu y.2.1 = cntOf e.pu y.2.2)))) H'
theorem ok_is_torn (T : T w K mg) : FnR P w K mg base CX0 2 (He.ga K "is_torn") (sp_is_torn K) := by
  have F_lays_at : FnR P w K mg base CX0 1 _ _ := ok_lays_at T
  have F_laid_ahead : FnR P w K mg base CX0 1 _ _ := ok_laid_ahead T
  obtain ⟨fd, F⟩ := T.f_is_torn
  refine F.r sc_is_torn (fun _ _ _ _ _ _ us hl => match us, hl with | [_, _, _, _], _ => rfl) (fun vs H Q E h => ?_) (fun cdv A outer s0 H vs Q E hr h => ?_)
  · obtain ⟨_, _, _, _, _, _, _, rfl, _⟩ := h
    rfl
  · obtain ⟨p, gg, t, y, e, k, size, rfl, ⟨t1, t2, hp, h1, h2⟩, Go1, l1000, ht, h0, q⟩ := h
    refine ⟨_, (pss_cons (ps_asg (pv 0) (pg_tup rfl (pgs_cons (pg_name (i := 4) sc_is_torn.nd rfl (Or.inl rfl)) (pgs_cons (pg_name (i := 5) sc_is_torn.nd rfl (Or.inl rfl)) (pgs_cons (pg_name (i := 6) sc_is_torn.nd rfl (Or.inl rfl)) pgs_nil)))))
  (pss_cons (ps_if (PW.pt (pw_or (pt_not (pt_val (pe_callR F_lays_at (hr.mono (by decide)) rfl T.g_lays_at T.k_lays_at (pa_cons (pv 2) (pa_cons (pe_ix ix_tup (pv 5) pe_int (fun _ _ => rfl)) (pa_cons (pv 3) pa_nil)))))) (pw_or1 (pt_not (pt_val (pe_callR F_lays_at (hr.mono (by decide)) rfl T.g_lays_at T.k_lays_at (pa_cons (pv 2) (pa_cons (pe_ix ix_tup (pv 6) pe_int (fun _ _ => rfl)) (pa_cons (pv 3) pa_nil)))))))))
  (pss_one (ps_ret pe_bl))
  pss_nil)
  (pss_one (ps_ret (pe_cmpR op_ne (pe_callR F_laid_ahead (hr.mono (by decide)) rfl T.g_laid_ahead T.k_laid_ahead (pa_cons (pv 1) (pa_cons (pv 5) pa_nil))) (pe_callR F_laid_ahead (hr.mono (by decide)) rfl T.g_laid_ahead T.k_laid_ahead (pa_cons (pv 1) (pa_cons (pv 6) pa_nil))) (nomark _)))))), ?_⟩
    refine ⟨_, rfl, p, _, rfl, SqT.of hp, rfl, _, _, rfl, _, _, rfl, _, _, rfl, rfl, ?_⟩ -- row, first, second
    refine ⟨_, rfl, _, rfl, _, _, _, _, rfl, rfl, SqT.of h1, rfl, _, rfl, t, k, _, size, rfl, ht, h0, _, rfl, ?_⟩ -- lays_at(.., first[1], ..)
    cases hl1 : laysAt k y.2.1.2 size with
    | false =>
      refine iteT (iteT ?_)
      rw [hl1] at q
      exact q _ (Same.refl _)
    | true =>
      refine iteF ?_
      refine ⟨_, rfl, _, rfl, _, _, _, _, rfl, rfl, SqT.of h2, rfl, _, rfl, t, k, _, size, rfl, ht, h0, _, rfl, ?_⟩ -- lays_at(.., second[1], ..)
      cases hl2 : laysAt k y.2.2.2 size with
      | false =>
        refine iteT ?_
        rw [hl1, hl2] at q
        exact q _ (Same.refl _)
      | true =>
        refine iteF ?_
        refine ⟨_, rfl, _, rfl, gg, t1, e, y.2.1, rfl, Go1, l1000, h1, fun H1 s1 => ?_⟩
        refine ⟨_, rfl, _, rfl, gg, t2, e, y.2.2, rfl, Go1.same s1, l1000, s1 _ _ h2, fun H2 s2 => ?_⟩
        rw [hl1, hl2] at q
        refine ⟨rfl, ?_⟩
        have ed : decide (V.int (cntOf e.pu y.2.1 : Nat) = V.int (cntOf e.pu y.2.2 : Nat)) = decide (cntOf e.pu y.2.1 = cntOf e.pu y.2.2) := by
          rw [dec_int']
          exact decide_eq_decide.mpr ⟨fun z => by omega, fun z => by omega⟩
        show Q (.bl (!decide (V.int (cntOf e.pu y.2.1 : Nat) = V.int (cntOf e.pu y.2.2 : Nat)))) _
        rw [ed]
        exact q _ (s1.trans s2)
structure GosAt (K : PySem.W.Frag) (H : Hp) (l : Addr) (gs : List Addr) (G : List Go) : Prop where
  lst : H l = some (.lst (gs.map V.ref))
  len : gs.length = G.length
  at_ : ∀ (i : Nat) (p : Addr) (e : Go), gs[i]? = some p → G[i]? = some e → GoAt K H p e
theorem GosAt.same {l : Addr} {gs : List Addr} {G : List Go} (h : GosAt K H l gs G) (s : Same H H') : GosAt K H' l gs G := ⟨s _ _ h.lst, h.len, fun i p e e1 e2 => (h.at_ i p e e1 e2).same s⟩
def sp_tears (K : PySem.W.Frag) : Sp := fun vs H Q _ => ∃ (wt dw pl wl : Addr) (k : Wa) (ps gs ts : List Addr) (ys : List Pq) (G : List Go) (ks : List Wk) (size : Nat), vs = [.ref wt, .ref pl, .ref wl, .int (size : Int)] ∧ H wt = some (.ins (cWatch K) dw (waF k)) ∧ PairsAt H pl ps ys ∧ GosAt K H k.goings gs G ∧ WorksAt K H wl ts ks ∧ (∀ e ∈ G, e.n < ks.length ∧ e.pu.length ≤ 1000) ∧ 0 < size ∧ ys.length * G.length ≤ 1000000 ∧
  ∀ H' R qs, H R = none → TupsAt H' R qs ((tornsL ks size G ys).map t3V) → Same H H' → Q (.ref R) H'
theorem tornY_len {ks : List Wk} {size : Nat} {G : List Go} {y : Pq} : (tornY ks size G y).length ≤ G.length := by
  unfold tornY
  rw [List.length_map]
  exact List.length_filter_le _ _
theorem tornsL_len {ks : List Wk} {size : Nat} {G : List Go} : ∀ {ys : List Pq}, (tornsL ks size G ys).length ≤ ys.length * G.length
  | [] => Nat.zero_le _
  | y :: r => by
    have h1 := tornY_len (ks := ks) (size := size) (G := G) (y := y)
    have h2 := tornsL_len (ks := ks) (size := size) (G := G) (ys := r)
    show ((tornY ks size G y) ++ (r.map (tornY ks size G)).flatten).length ≤ (r.length + 1) * G.length
    rw [List.length_append, Nat.add_mul]
    have h3 : ((r.map (tornY ks size G)).flatten).length ≤ r.length * G.length := h2
    omega
theorem ok_tears (T : T w K mg) : FnR P w K mg base CX0 3 (He.ga K "tears") (sp_tears K) := by
  have F_is_torn : FnR P w K mg base CX0 2 _ _ := ok_is_torn T
  obtain ⟨fd, F⟩ := T.f_tears
  refine F.r sc_tears (fun _ _ _ _ _ _ us hl => match us, hl with | [_, _, _, _], _ => rfl) (fun vs H Q E h => ?_) (fun cdv A outer s0 H vs Q E hr h => ?_)
  · obtain ⟨_, _, _, _, _, _, _, _, _, _, _, _, rfl, _⟩ := h
    rfl
  · obtain ⟨wt, dw, pl, wl, k, ps, gs, ts, ys, G, ks, size, rfl, hw, PP, GG, W, gok, h0, lim, q⟩ := h
    refine ⟨_, (pss_cons (ps_set (i := 4) sc_tears.nd rfl (Or.inl rfl) (pe_lst pa_nil))
  (pss_cons (ps_for PassesOwn.never rfl (pi_list (pv 1)) (pg_name (i := 5) sc_tears.nd rfl (Or.inl rfl))
  (pss_one (ps_for PassesOwn.never rfl (pi_list (pe_fld (pv 0) rfl)) (pg_name (i := 6) sc_tears.nd rfl (Or.inl rfl))
  (pss_one (ps_if (pt_val (pe_callR F_is_torn (hr.mono (by decide)) rfl T.g_is_torn T.k_is_torn (pa_cons (pv 5) (pa_cons (pv 6) (pa_cons (pe_ix ix_list (pv 2) (pe_fld (pv 6) rfl) (fun _ _ => rfl)) (pa_cons (pv 3) pa_nil))))))
  (pss_one (ps_expr (pe_bm PySem.F.plainAttrs_list PySem.F.slot_list_append PySem.F.type_list_append mt_append (pv 4) (pa_cons (pe_tup (pa_cons (pe_ix ix_tup (pv 5) pe_int (fun _ _ => rfl)) (pa_cons (pe_ix ix_tup (pe_ix ix_tup (pv 5) pe_int (fun _ _ => rfl)) pe_int (fun _ _ => rfl)) (pa_cons (pe_fld (pv 6) rfl) pa_nil)))) pa_nil))))
  pss_nil)))))
  (pss_one (ps_ret (pv 4))))), ?_⟩
    refine ⟨by show 0 ≤ sizeLine; decide, fun R nR => ?_⟩
    have s1 : Same H (upd H R (.lst [])) := Same.new (Same.refl _) nR
    have h1 : upd H R (.lst []) R = some (.lst []) := upd_same
    generalize upd H R (.lst []) = H1 at s1 h1
    refine ⟨_, rfl, pl, rfl, ⟨_, SqL.of (s1 _ _ PP.lst)⟩, for_list (K := K) (a := pl) (xs := ps.map V.ref) (fun i σ H2 => ∃ v5 v6 qs, σ = [some (.ref wt), some (.ref pl), some (.ref wl), some (.int (size : Int)), some (.ref R), v5, v6] ∧ TupsAt H2 R qs ((tornsL ks size G (ys.take i)).map t3V) ∧ Same H H2)
      ⟨_, _, [], rfl, ⟨h1, rfl, fun j p vs e1 _ => by simp at e1⟩, s1⟩ (fun i σ H2 _ ⟨_, _, _, _, _, s⟩ => SqL.of (s _ _ PP.lst)) ?_ ?_⟩
    · rintro i x σ H2 hx ⟨v5, v6, qs, rfl, T2, s2⟩
      rw [List.getElem?_map] at hx
      cases hp : ps[i]? with
      | none => rw [hp] at hx; cases hx
      | some p =>
        rw [hp] at hx
        cases hx
        have hi : i < ys.length := by rw [← PP.len]; exact (List.getElem?_eq_some_iff.mp hp).1
        obtain ⟨y, hy⟩ : ∃ y, ys[i]? = some y := ⟨_, List.getElem?_eq_getElem hi⟩
        have PA : PairAt H p y := PP.at_ i p y hp hy
        have et : ys.take (i + 1) = ys.take i ++ [y] := by rw [List.take_add_one, hy]; rfl
        rw [et, tornsL_snoc]
        have tl := tornsL_len (ks := ks) (size := size) (G := G) (ys := ys.take i)
        have tlim : (tornsL ks size G (ys.take i)).length + G.length ≤ 1000000 := by
          rw [List.length_take, Nat.min_eq_left (by omega)] at tl
          have h2 : (i + 1) * G.length ≤ ys.length * G.length := Nat.mul_le_mul_right _ hi
          rw [Nat.add_mul] at h2
          omega
        generalize tornsL ks size G (ys.take i) = acc at T2 tlim
        refine ⟨_, rfl, _, _, _, _, _, rfl, s2 _ _ hw, T.cl_Watch, T.n_Watch_goings, wa_goings _, k.goings, rfl, ⟨_, SqL.of (s2 _ _ GG.lst)⟩, ?_⟩
        refine for_list (K := K) (a := k.goings) (xs := gs.map V.ref) (fun m σ H3 => ∃ v6 qs, σ = [some (.ref wt), some (.ref pl), some (.ref wl), some (.int (size : Int)), some (.ref R), some (.ref p), v6] ∧ TupsAt H3 R qs ((acc ++ tornY ks size (G.take m) y).map t3V) ∧ Same H H3)
          ⟨_, qs, rfl, by rw [List.take_zero]; unfold tornY; rw [List.filter_nil, List.map_nil, List.append_nil]; exact T2, s2⟩ (fun i σ H3 _ ⟨_, _, _, _, s⟩ => SqL.of (s _ _ GG.lst)) ?_ ?_
        · rintro m x σ H3 hx ⟨u6, qs3, rfl, T3, s3⟩
          rw [List.getElem?_map] at hx
          cases hg : gs[m]? with
          | none => rw [hg] at hx; cases hx
          | some g =>
            rw [hg] at hx
            cases hx
            have hm : m < G.length := by rw [← GG.len]; exact (List.getElem?_eq_some_iff.mp hg).1
            obtain ⟨e, he⟩ : ∃ e, G[m]? = some e := ⟨_, List.getElem?_eq_getElem hm⟩
            have ga := (GG.at_ m g e hg he).same s3
            obtain ⟨dg, plg, psg, hgo, tpg⟩ := GG.at_ m g e hg he
            obtain ⟨en, el⟩ := gok e (List.mem_of_getElem? he)
            have hkk : ks[e.n]? = some ks[e.n] := List.getElem?_eq_getElem en
            have hwk : wkAt ks e.n = ks[e.n] := wkAt_some hkk
            generalize ks[e.n] = kk at hkk hwk
            obtain ⟨ta, hta⟩ : ∃ ta, ts[e.n]? = some ta := ⟨_, List.getElem?_eq_getElem (by rw [W.len]; exact en)⟩
            have eG : G.take (m + 1) = G.take m ++ [e] := by rw [List.take_add_one, he]; rfl
            rw [eG, tornY_snoc]
            have yl := tornY_len (ks := ks) (size := size) (G := G.take m) (y := y)
            rw [List.length_take] at yl
            refine ⟨_, rfl, _, rfl, _, rfl, _, rfl, _, _, _, _, _, rfl, s3 _ _ hgo, T.cl_Going, T.n_Going_number, gg_number _, _, _, _, _, rfl, rfl, s3.seq W.lst, at_ixG hta, _, rfl, ?_⟩
            refine ⟨p, g, ta, y, e, kk, size, rfl, PA.same s3, ga, el, Same.tup s3 (W.at_ e.n ta kk hta hkk), h0, fun H4 s4 => ?_⟩ -- is_torn(..)
            have eb : (laysAt kk y.2.1.2 size && (laysAt kk y.2.2.2 size && !decide (cntOf e.pu y.2.1 = cntOf e.pu y.2.2))) = tornB ks size y e := by unfold tornB; rw [hwk]
            rw [eb]
            refine ⟨_, rfl, ?_⟩
            have s34 := s3.trans s4
            cases hb : tornB ks size y e with
            | false =>
              refine iteF ⟨_, qs3, rfl, ?_, s34⟩
              rw [if_neg (by decide), List.append_nil]
              exact T3.keep s4
            | true =>
              have T4 := T3.keep s4
              obtain ⟨t1, t2, hp0, hp1, hp2⟩ := PA
              refine iteT ⟨_, rfl, .inl ⟨rfl, _, SqL.of T4.lst⟩, ?_⟩
              refine ⟨_, rfl, _, _, _, _, rfl, rfl, SqT.of (s34 _ _ hp0), rfl, ?_⟩
              refine ⟨_, rfl, _, _, _, _, rfl, rfl, SqT.of (s34 _ _ hp0), rfl, _, _, _, _, rfl, rfl, SqT.of (s34 _ _ hp2), rfl, ?_⟩
              refine ⟨_, rfl, _, _, _, _, _, rfl, s34 _ _ hgo, T.cl_Going, T.n_Going_number, gg_number _, by show 3 ≤ sizeLine; decide, fun z nz => ?_⟩
              have s5 : Same H4 (upd H4 z (.tup (t3V (y.1, y.2.2.1, (e.n : Int))))) := Same.new (Same.refl _) nz
              have h5 : upd H4 z (.tup (t3V (y.1, y.2.2.1, (e.n : Int)))) z = some (.tup (t3V (y.1, y.2.2.1, (e.n : Int)))) := upd_same
              have T5 := T4.keep s5
              refine ⟨_, _, _, rfl, rfl, T5.lst, ?_, ?_⟩
              · rw [List.length_map, T5.len, List.length_map, List.length_append]
                exact Nat.lt_of_le_of_lt (show _ ≤ 1000000 by omega) (by decide)
              have em : qs3.map V.ref ++ [.ref z] = (qs3 ++ [z]).map V.ref := by simp
              rw [em]
              refine ⟨_, qs3 ++ [z], rfl, ?_, Same.new (s34.trans s5) nR⟩
              rw [if_pos rfl, ← List.append_assoc, List.map_append (l₁ := acc ++ _)]
              exact T5.push h5
        · rintro σ H3 ⟨u6, qs3, rfl, T3, s3⟩
          rw [List.length_map, GG.len, List.take_length] at T3
          exact ⟨_, _, qs3, rfl, T3, s3⟩
    · rintro σ H2 ⟨v5, v6, qs, rfl, T2, s2⟩
      refine ⟨_, rfl, ?_⟩
      rw [List.length_map, PP.len, List.take_length] at T2
      exact q _ _ _ nR T2 s2
end
end SB

set_option Elab.async false
set_option linter.all false
set_option maxRecDepth 100000
set_option maxHeartbeats 2000000
namespace SB
open PySem L2
theorem g_len {s : HS} {g : GH} (O : HOk s) (h0 : g.G.length = 0) : ∀ n, (s.gafter g n).G.length ≤ 10 * n
  | 0 => by show g.G.length ≤ _; omega
  | n + 1 => by
    have ih := g_len (s := s) (g := g) O h0 n
    have On := O.after n
    show ((s.after n).gnext (s.gafter g n)).G.length ≤ _
    rcases gnext_nb (s.after n) (s.gafter g n) with h | h
    · omega
    · have h8 : (askedOf (s.after n)).length ≤ 8 := by
        unfold askedOf
        rw [List.length_map]
        exact Nat.le_trans (List.length_filter_le _ _) On.a8
      omega
section
variable {P : Program} {w : World} {K : PySem.W.Frag} {mg : Str → Option Value} {base : Heap} {H H' : Hp}
structure GoodH (K : PySem.W.Frag) (H : Hp) (pa wl ml al : Addr) (rs ts qs : List Addr) (prog : List Row) (ks : List Wk) (ws : List Int) (as : List (Int × Int)) : Prop where
  pr : ProgAt K H pa rs prog
  p0 : 0 < prog.length
  p40 : prog.length ≤ 40
  pok : ∀ r ∈ prog, r.ok prog.length
  W : WorksAt K H wl ts ks
  k6 : ks.length ≤ 6
  kok : ∀ k ∈ ks, WOk ks.length k
  M : SqL K H ml (ws.map V.int)
  w4 : 4 ≤ ws.length
  w32 : ws.length ≤ 32
  wok : ∀ x ∈ ws, rg 0 999 x
  A : AsksAt K H al qs as
  ao : AOk ks.length as
theorem GoodH.same {pa wl ml al : Addr} {rs ts qs : List Addr} {prog : List Row} {ks : List Wk} {ws : List Int} {as : List (Int × Int)} (h : GoodH K H pa wl ml al rs ts qs prog ks ws as) (s : Same H H') : GoodH K H' pa wl ml al rs ts qs prog ks ws as :=
  ⟨h.pr.same s, h.p0, h.p40, h.pok, h.W.same s, h.k6, h.kok, s.seq h.M, h.w4, h.w32, h.wok, h.A.same s, h.ao⟩
def tornsOf (prog : List Row) (as : List (Int × Int)) (ks : List Wk) (ws : List Int) (n : Nat) : List (Int × Int × Int) := tornsL ks ws.length ((HS.at0 prog as ks ws).gafter (GH.none ks.length) n).G (wpN (HS.at0 prog as ks ws) n).pr
def sp_tears_within (K : PySem.W.Frag) : Sp := fun vs H Q _ => ∃ (pa wl ml al : Addr) (rs ts qs : List Addr) (prog : List Row) (ks : List Wk) (ws : List Int) (as : List (Int × Int)) (n : Int), vs = [.ref pa, .ref wl, .ref ml, .ref al, .int n] ∧ GoodH K H pa wl ml al rs ts qs prog ks ws as ∧ rg 0 300 n ∧
  ∀ H' R us, H R = none → TupsAt H' R us ((tornsOf prog as ks ws n.toNat).map t3V) → Same H H' → Q (.ref R) H'
theorem ok_tears_within (T : T w K mg) : FnR P w K mg base CX0 9 (He.ga K "tears_within") (sp_tears_within K) := by
  have F_Watch_init : FnR P w K mg base CX0 7 _ _ := ok_Watch_init T
  have F_Watch_run : FnR P w K mg base CX0 8 _ _ := ok_Watch_run T
  have F_tears : FnR P w K mg base CX0 3 _ _ := ok_tears T
  obtain ⟨fd, F⟩ := T.f_tears_within
  refine F.r sc_tears_within (fun _ _ _ _ _ _ us hl => match us, hl with | [_, _, _, _, _], _ => rfl) (fun vs H Q E h => ?_) (fun cdv A outer s0 H vs Q E hr h => ?_)
  · obtain ⟨_, _, _, _, _, _, _, _, _, _, _, _, rfl, _⟩ := h
    rfl
  · obtain ⟨pa, wl, ml, al, rs, ts, qs, prog, ks, ws, as, n, rfl, G, ⟨hn0, hn1⟩, q⟩ := h
    refine ⟨_, (pss_cons (ps_set (i := 5) sc_tears_within.nd rfl (Or.inl rfl) (pe_mkR T.mk_Watch F_Watch_init (hr.mono (by decide)) rfl T.g_Watch (pa_cons (pv 0) (pa_cons (pv 1) (pa_cons (pv 2) (pa_cons (pv 3) pa_nil))))))
  (pss_cons (ps_expr (pe_mthR (pv 5) T.cl_Watch T.m_Watch_run F_Watch_run (hr.mono (by decide)) (pa_cons (pv 4) pa_nil)))
  (pss_one (ps_ret (pe_callR F_tears (hr.mono (by decide)) rfl T.g_tears T.k_tears (pa_cons (pv 5) (pa_cons (pe_fld (pv 5) rfl) (pa_cons (pv 1) (pa_cons (pe_callB call_len_seq rfl T.u_len PySem.boot_len (pa_cons (pv 2) pa_nil)) pa_nil))))))))), ?_⟩
    refine ⟨_, rfl, _, rfl, _, rfl, _, rfl, ?_⟩
    intro wt dw nwt ndw new
    have s3 : Same H (upd (upd H dw (.own wt)) wt (.ins (cWatch K) dw [])) := fun b o e => by
      rw [upd_ne (ne_of_none e nwt), upd_ne (ne_of_none e ndw)]
      exact e
    have G3 := G.same s3
    have O := at0_ok (ws := ws) G.pok G.k6 G.kok G.w4 G.ao
    refine ⟨wt, dw, pa, wl, ml, al, rs, ts, qs, prog, ks, ws, as, rfl, upd_same, G3.pr, G3.W, G.k6, fun k hk => ?_, G3.M, G3.A, fun H4 b hb W4 nf k4 => ⟨rfl, ?_⟩⟩ -- Watch(..)
    · obtain ⟨m1, m2⟩ := (G.kok k hk).m
      omega
    subst hb
    have s4 : Same H H4 := fun x o e => k4 x o (s3 x o e) (by simpa using ne_of_none e nwt)
    have nf0 : ∀ x ∈ b.foot, H x = none := fun x hx => by
      by_cases e : x = b.wt
      · rw [e]; exact nwt
      · exact Same.free s3 (nf x hx e)
    refine ⟨_, rfl, _, _, _, rfl, W4.wo, wa_no_run _, ?_⟩
    refine ⟨_, rfl, b, _, _, n, rfl, W4, O, by omega, by omega, fun H5 b' e1 e2 W5 st5 _ => ?_⟩ -- watch.run(beats)
    have s5 : Same H H5 := fun x o e => st5.kp x o (s4 x o e) (fun zz => by rw [nf0 x zz] at e; cases e)
    obtain ⟨ps, PP⟩ := W5.pr
    have cc := (Co.at0 (prog := prog) (as := as) (ws := ws) G.kok).after n.toNat
    have gl := g_len (g := GH.none ks.length) O rfl n.toNat
    have prl := W5.prl
    have kl : ((HS.at0 prog as ks ws).after n.toNat).ks.length = ks.length := by
      rw [← cc.ok.clen]
      have := (Co.at0 (prog := prog) (as := as) (ws := ws) G.kok).ok.clen
      have h1 : ∀ m, ((HS.at0 prog as ks ws).after m).ks.length = ks.length := fun m => by
        induction m with
        | zero => show (ks.map Wk.fresh).length = _; rw [List.length_map]
        | succ m ih =>
          have := (show ((HS.at0 prog as ks ws).after (m + 1)).ks.length = ((HS.at0 prog as ks ws).after m).ks.length by
            show ((HS.at0 prog as ks ws).after m).ms.2.1.length = _
            unfold HS.ms
            rw [mstep_len.1]
            unfold HS.dm
            rw [devMove_len.1, askAll_len])
          omega
      rw [cc.ok.clen, h1]
    have GG : GosAt K H5 b'.gl (b'.f.da.gas.map (·.g)) ((HS.at0 prog as ks ws).gafter (GH.none ks.length) n.toNat).G := by
      refine ⟨?_, ?_, fun i p e h1 h2 => ?_⟩
      · have := W5.gl
        rw [List.map_map]
        exact this
      · rw [List.length_map]
        exact W5.fl.dv.glen
      · rw [List.getElem?_map] at h1
        cases hg : b'.f.da.gas[i]? with
        | none => rw [hg] at h1; cases h1
        | some x =>
          rw [hg] at h1
          cases h1
          obtain ⟨o1, o2⟩ := W5.fl.dv.go i x e hg h2
          exact ⟨_, _, _, o1, o2⟩
    have gok : ∀ e ∈ ((HS.at0 prog as ks ws).gafter (GH.none ks.length) n.toNat).G, e.n < ks.length ∧ e.pu.length ≤ 1000 := fun e he => by
      obtain ⟨i, hi⟩ := List.getElem?_of_mem he
      obtain ⟨k, k1, k2⟩ := cc.nc i e hi
      have h1 := (List.getElem?_eq_some_iff.mp k1).1
      have mb := cc.ok.mb k (List.mem_of_getElem? k1)
      refine ⟨by omega, ?_⟩
      rcases k2 with k2 | k2
      · obtain ⟨_, e0, q1, _, _, q4, q5⟩ := cc.ok.on e.n k i k1 k2
        rw [hi] at q1
        cases q1
        omega
      · omega
    refine ⟨_, rfl, _, rfl, _, _, _, _, _, rfl, (by rw [← e1]; exact W5.wo), T.cl_Watch, T.n_Watch_pairs, wa_pairs _, ?_⟩
    refine ⟨_, rfl, _, rfl, _, _, rfl, .inl (s5.seq G.M), ?_⟩
    rw [List.length_map]
    have W5o := W5.wo
    rw [e1] at W5o
    refine ⟨b.wt, _, b'.pr, wl, _, ps, _, ts, _, _, ks, ws.length, rfl, W5o, PP, GG, G.W.same s5, gok, by have := G.w4; omega, ?_, fun H6 R us nR T6 s6 => ?_⟩
    · have h1 : (wpN (HS.at0 prog as ks ws) n.toNat).pr.length ≤ 300 := by omega
      have h2 : ((HS.at0 prog as ks ws).gafter (GH.none ks.length) n.toNat).G.length ≤ 3000 := by omega
      exact Nat.le_trans (Nat.mul_le_mul h1 h2) (by decide)
    · exact q _ _ _ (Same.free s5 nR) T6 (s5.trans s6)
def sp_torns (K : PySem.W.Frag) : Sp := sp_tears_within K
end
end SB

set_option Elab.async false
set_option linter.all false
set_option maxRecDepth 100000
set_option maxHeartbeats 2000000
namespace SB
open PySem L2
def tornAt (prog : List Row) (ks : List Wk) (ws : List Int) (wk b : Int) : Bool := !(tornsOf prog [(b, wk)] ks ws 300).isEmpty
def firstT (T : Int → Bool) (lo : Int) : Nat → Option Int
  | 0 => none
  | n + 1 => if T lo = true then some lo else firstT T (lo + 1) n
theorem firstT_none {T : Int → Bool} : ∀ {n : Nat} {lo : Int}, (∀ j : Nat, j < n → T (lo + (j : Int)) = false) → firstT T lo n = none
  | 0, lo, _ => rfl
  | n + 1, lo, h => by
    have h0 : T lo = false := by have := h 0 (by omega); rw [show lo + ((0 : Nat) : Int) = lo by omega] at this; exact this
    show (if T lo = true then some lo else firstT T (lo + 1) n) = none
    rw [h0, if_neg (by decide)]
    exact firstT_none (fun j hj => by have := h (j + 1) (by omega); rw [show lo + ((j + 1 : Nat) : Int) = lo + 1 + (j : Int) by omega] at this; exact this)
theorem firstT_hit {T : Int → Bool} : ∀ {n i : Nat} {lo : Int}, (∀ j : Nat, j < i → T (lo + (j : Int)) = false) → i < n → T (lo + (i : Int)) = true → firstT T lo n = some (lo + (i : Int))
  | 0, i, lo, _, hi, _ => by omega
  | n + 1, 0, lo, h, hi, ht => by
    rw [show lo + ((0 : Nat) : Int) = lo by omega] at ht ⊢
    show (if T lo = true then some lo else firstT T (lo + 1) n) = _
    rw [if_pos ht]
  | n + 1, i + 1, lo, h, hi, ht => by
    have h0 : T lo = false := by have := h 0 (by omega); rw [show lo + ((0 : Nat) : Int) = lo by omega] at this; exact this
    show (if T lo = true then some lo else firstT T (lo + 1) n) = _
    rw [h0, if_neg (by decide), firstT_hit (i := i) (fun j hj => by have := h (j + 1) (by omega); rw [show lo + ((j + 1 : Nat) : Int) = lo + 1 + (j : Int) by omega] at this; exact this) (by omega) (by rw [show lo + 1 + (i : Int) = lo + ((i + 1 : Nat) : Int) by omega]; exact ht)]
    congr 1
    omega
section
variable {P : Program} {w : World} {K : PySem.W.Frag} {mg : Str → Option Value} {base : Heap} {H H' : Hp}
structure Win (wk lo hi : Int) (n : Nat) : Prop where
  w0 : 0 ≤ wk
  w1 : wk < n
  lo0 : rg 0 200 lo
  hi0 : rg 0 200 hi
  le : lo ≤ hi
  wd : hi ≤ lo + 40
def sp_is_window (K : PySem.W.Frag) : Sp := fun vs H Q _ => ∃ (wl : Addr) (xs : List V) (wk lo hi : Int), vs = [.int wk, .int lo, .int hi, .ref wl] ∧ SqL K H wl xs ∧ Win wk lo hi xs.length ∧ Q (.bl true) H
theorem ok_is_window (T : T w K mg) : FnR P w K mg base CX0 3 (He.ga K "is_window") (sp_is_window K) := by
  have F_is_part : FnR P w K mg base CX0 2 _ _ := ok_is_part T
  have F_is_one_of : FnR P w K mg base CX0 2 _ _ := ok_is_one_of T
  obtain ⟨t1, g_WIDEST_WINDOW⟩ := T.i_WIDEST_WINDOW
  obtain ⟨fd, F⟩ := T.f_is_window
  refine F.r sc_is_window (fun _ _ _ _ _ _ us hl => match us, hl with | [_, _, _, _], _ => rfl) (fun vs H Q E h => ?_) (fun cdv A outer s H vs Q E hr h => ?_)
  · obtain ⟨_, _, _, _, _, rfl, _⟩ := h
    rfl
  · obtain ⟨wl, xs, wk, lo, hi, rfl, hl, Wn, q⟩ := h
    refine ⟨_, (pss_cons (ps_if (PW.pt (pw_or (pt_not (pt_val (pe_callR F_is_one_of (hr.mono (by decide)) rfl T.g_is_one_of T.k_is_one_of (pa_cons (pv 0) (pa_cons (pe_callB call_len_seq rfl T.u_len PySem.boot_len (pa_cons (pv 3) pa_nil)) pa_nil))))) (pw_or (pt_not (pt_val (pe_callR F_is_part (hr.mono (by decide)) rfl T.g_is_part T.k_is_part (pa_cons (pv 1) (pa_cons pe_str pa_nil))))) (pw_or1 (pt_not (pt_val (pe_callR F_is_part (hr.mono (by decide)) rfl T.g_is_part T.k_is_part (pa_cons (pv 2) (pa_cons pe_str pa_nil)))))))))
  (pss_one (ps_ret pe_bl))
  pss_nil)
  (pss_one (ps_ret (pe_chain op_le op_le (pv 1) (pv 2) (pe_op op_add (pv 1) (pe_glob (v := .int 40) rfl g_WIDEST_WINDOW ⟨_, rfl⟩)))))), ?_⟩
    refine ⟨_, rfl, _, rfl, _, _, rfl, .inl hl, _, _, "int", rfl, .int _, ?_⟩
    rw [num_ok (show rg 0 ((xs.length : Int) - 1) wk from ⟨Wn.w0, by have := Wn.w1; omega⟩)]
    refine ⟨_, rfl, iteF ?_⟩
    refine ⟨_, rfl, _, _, 0, 200, "int", rfl, T.e_BOUNDS_ask, .int _, ?_⟩
    rw [num_ok Wn.lo0]
    refine ⟨_, rfl, iteF ?_⟩
    refine ⟨_, rfl, _, _, 0, 200, "int", rfl, T.e_BOUNDS_ask, .int _, ?_⟩
    rw [num_ok Wn.hi0]
    refine ⟨_, rfl, iteF ?_⟩
    refine ⟨_, rfl, _, rfl, _, _, rfl, rfl, decide (lo ≤ hi), rfl, ?_⟩
    rw [decide_eq_true Wn.le]
    refine iteT ⟨_, rfl, _, _, rfl, rfl, _, _, rfl, rfl, ?_⟩
    show Q (.bl (decide (hi ≤ lo + 40))) _
    rw [decide_eq_true Wn.wd]
    exact q
def sp_check_window (K : PySem.W.Frag) : Sp := fun vs H Q _ => ∃ (wl : Addr) (xs : List V) (wk lo hi : Int), vs = [.int wk, .int lo, .int hi, .ref wl] ∧ SqL K H wl xs ∧ Win wk lo hi xs.length ∧ Q .non H
theorem ok_check_window (T : T w K mg) : FnR P w K mg base CX0 4 (He.ga K "check_window") (sp_check_window K) := by
  have F_is_window : FnR P w K mg base CX0 3 _ _ := ok_is_window T
  obtain ⟨fd, F⟩ := T.f_check_window
  refine F.r sc_check_window (fun _ _ _ _ _ _ us hl => match us, hl with | [_, _, _, _], _ => rfl) (fun vs H Q E h => ?_) (fun cdv A outer s H vs Q E hr h => ?_)
  · obtain ⟨_, _, _, _, _, rfl, _⟩ := h
    rfl
  · obtain ⟨wl, xs, wk, lo, hi, rfl, hl, Wn, q⟩ := h
    refine ⟨_, (pss_one (ps_if (pt_not (pt_val (pe_callR F_is_window (hr.mono (by decide)) rfl T.g_is_window T.k_is_window (pa_cons (pv 0) (pa_cons (pv 1) (pa_cons (pv 2) (pa_cons (pv 3) pa_nil)))))))
  (pss_one ps_never)
  pss_nil)), ?_⟩
    exact ⟨_, rfl, _, rfl, _, rfl, _, rfl, wl, xs, wk, lo, hi, rfl, hl, Wn, _, rfl, iteF q⟩
structure GoodW (K : PySem.W.Frag) (H : Hp) (pa wl ml : Addr) (rs ts : List Addr) (prog : List Row) (ks : List Wk) (ws : List Int) : Prop where
  pr : ProgAt K H pa rs prog
  p0 : 0 < prog.length
  p40 : prog.length ≤ 40
  pok : ∀ r ∈ prog, r.ok prog.length
  W : WorksAt K H wl ts ks
  k6 : ks.length ≤ 6
  kok : ∀ k ∈ ks, WOk ks.length k
  M : SqL K H ml (ws.map V.int)
  w4 : 4 ≤ ws.length
  w32 : ws.length ≤ 32
  wok : ∀ x ∈ ws, rg 0 999 x
theorem GoodW.same {pa wl ml : Addr} {rs ts : List Addr} {prog : List Row} {ks : List Wk} {ws : List Int} (h : GoodW K H pa wl ml rs ts prog ks ws) (s : Same H H') : GoodW K H' pa wl ml rs ts prog ks ws :=
  ⟨h.pr.same s, h.p0, h.p40, h.pok, h.W.same s, h.k6, h.kok, s.seq h.M, h.w4, h.w32, h.wok⟩
theorem ao_one {b wk : Int} {n : Nat} (hb : rg 0 200 b) (h0 : 0 ≤ wk) (h1 : wk < n) : AOk n [(b, wk)] := by
  refine ⟨by show 1 ≤ 8; decide, fun a ha => ?_, fun i a c e1 e2 => ?_⟩
  · have e : a = (b, wk) := by simpa using ha
    rw [e]
    exact ⟨hb, h0, h1⟩
  · have := (List.getElem?_eq_some_iff.mp e2).1
    simp at this
theorem asks_one {al t : Addr} {b wk : Int} (h1 : H al = some (.lst [.ref t])) (h2 : H t = some (.tup [.int b, .int wk])) : TupsAt H al [t] ([(b, wk)].map puV) := by
  refine ⟨h1, rfl, fun j p vs e1 e2 => ?_⟩
  cases j with
  | zero =>
    cases e1
    cases e2
    exact h2
  | succ j => simp at e1
theorem TupsAt.asksT {al : Addr} {qs : List Addr} {as : List (Int × Int)} (t : TupsAt H al qs (as.map puV)) : AsksAt K H al qs as :=
  ⟨SqL.of t.lst, by rw [t.len, List.length_map], fun j p x e1 e2 => SqT.of (t.at_ j p _ e1 (by rw [List.getElem?_map, e2]; rfl))⟩
def sp_check_windowed (K : PySem.W.Frag) : Sp := fun vs H Q _ => ∃ (pa wl ml : Addr) (rs ts : List Addr) (prog : List Row) (ks : List Wk) (ws : List Int) (wk lo hi : Int), vs = [.ref pa, .ref wl, .ref ml, .int wk, .int lo, .int hi] ∧ GoodW K H pa wl ml rs ts prog ks ws ∧ Win wk lo hi ks.length ∧ ∀ H', Same H H' → Q .non H'
theorem ok_check_windowed (T : T w K mg) : FnR P w K mg base CX0 5 (He.ga K "check_windowed") (sp_check_windowed K) := by
  have F_check_program : FnR P w K mg base CX0 4 _ _ := ok_check_program T
  have F_check_works : FnR P w K mg base CX0 4 _ _ := ok_check_works T
  have F_check_memory : FnR P w K mg base CX0 3 _ _ := ok_check_memory T
  have F_check_window : FnR P w K mg base CX0 4 _ _ := ok_check_window T
  obtain ⟨fd, F⟩ := T.f_check_windowed
  refine F.r sc_check_windowed (fun _ _ _ _ _ _ us hl => match us, hl with | [_, _, _, _, _, _], _ => rfl) (fun vs H Q E h => ?_) (fun cdv A outer s H vs Q E hr h => ?_)
  · obtain ⟨_, _, _, _, _, _, _, _, _, _, _, rfl, _⟩ := h
    rfl
  · obtain ⟨pa, wl, ml, rs, ts, prog, ks, ws, wk, lo, hi, rfl, G, Wn, q⟩ := h
    refine ⟨_, (pss_cons (ps_expr (pe_callR F_check_program (hr.mono (by decide)) rfl T.g_check_program T.k_check_program (pa_cons (pv 0) pa_nil)))
  (pss_cons (ps_expr (pe_callR F_check_works (hr.mono (by decide)) rfl T.g_check_works T.k_check_works (pa_cons (pv 1) pa_nil)))
  (pss_cons (ps_expr (pe_callR F_check_memory (hr.mono (by decide)) rfl T.g_check_memory T.k_check_memory (pa_cons (pv 2) pa_nil)))
  (pss_one (ps_expr (pe_callR F_check_window (hr.mono (by decide)) rfl T.g_check_window T.k_check_window (pa_cons (pv 3) (pa_cons (pv 4) (pa_cons (pv 5) (pa_cons (pv 1) pa_nil)))))))))), ?_⟩
    refine ⟨_, rfl, pa, rs, prog, rfl, G.pr, G.p0, G.p40, G.pok, fun H1 s1 => ?_⟩
    refine ⟨_, rfl, wl, ts, ks, rfl, G.W.same s1, G.k6, G.kok, fun H2 s2 => ?_⟩
    have s12 := s1.trans s2
    refine ⟨_, rfl, ml, ws, rfl, s12.seq G.M, G.w4, G.w32, G.wok, ?_⟩
    refine ⟨_, rfl, _, rfl, _, rfl, _, rfl, wl, _, wk, lo, hi, rfl, s12.seq G.W.lst, ?_, q _ s12⟩
    rw [List.length_map, G.W.len]
    exact Wn
def sp_first_torn (K : PySem.W.Frag) : Sp := fun vs H Q _ => ∃ (pa wl ml : Addr) (rs ts : List Addr) (prog : List Row) (ks : List Wk) (ws : List Int) (wk lo hi : Int), vs = [.ref pa, .ref wl, .ref ml, .int wk, .int lo, .int hi] ∧ GoodW K H pa wl ml rs ts prog ks ws ∧ Win wk lo hi ks.length ∧ ∀ H', Same H H' → Q (oV (firstT (tornAt prog ks ws wk) lo (hi + 1 - lo).toNat)) H'
theorem ok_first_torn (T : T w K mg) : FnR P w K mg base CX0 10 (He.ga K "first_torn") (sp_first_torn K) := by
  have F_check_windowed : FnR P w K mg base CX0 5 _ _ := ok_check_windowed T
  have F_tears_within : FnR P w K mg base CX0 9 _ _ := ok_tears_within T
  obtain ⟨t1, g_MOST_BEATS⟩ := T.i_MOST_BEATS
  obtain ⟨fd, F⟩ := T.f_first_torn
  refine F.r sc_first_torn (fun _ _ _ _ _ _ us hl => match us, hl with | [_, _, _, _, _, _], _ => rfl) (fun vs H Q E h => ?_) (fun cdv A outer s H vs Q E hr h => ?_)
  · obtain ⟨_, _, _, _, _, _, _, _, _, _, _, rfl, _⟩ := h
    rfl
  · obtain ⟨pa, wl, ml, rs, ts, prog, ks, ws, wk, lo, hi, rfl, G, Wn, q⟩ := h
    refine ⟨_, (pss_cons (ps_expr (pe_callR F_check_windowed (hr.mono (by decide)) rfl T.g_check_windowed T.k_check_windowed (pa_cons (pv 0) (pa_cons (pv 1) (pa_cons (pv 2) (pa_cons (pv 3) (pa_cons (pv 4) (pa_cons (pv 5) pa_nil))))))))
  (pss_cons (ps_for PassesOwn.never rfl (pi_range2 rfl T.u_range (pa_cons (pv 4) (pa_cons (pe_op op_add (pv 5) pe_int) pa_nil))) (pg_name (i := 6) sc_first_torn.nd rfl (Or.inl rfl))
  (pss_one (ps_if (pt_truth (pe_callR F_tears_within (hr.mono (by decide)) rfl T.g_tears_within T.k_tears_within (pa_cons (pv 0) (pa_cons (pv 1) (pa_cons (pv 2) (pa_cons (pe_lst (pa_cons (pe_tup (pa_cons (pv 6) (pa_cons (pv 3) pa_nil))) pa_nil)) (pa_cons (pe_glob (v := .int 300) rfl g_MOST_BEATS ⟨_, rfl⟩) pa_nil)))))) (fun _ => rfl))
  (pss_one (ps_ret (pv 6)))
  pss_nil)))
  (pss_one (ps_ret pe_non)))), ?_⟩
    refine ⟨_, rfl, _, rfl, _, rfl, _, rfl, _, rfl, _, rfl, pa, wl, ml, rs, ts, prog, ks, ws, wk, lo, hi, rfl, G, Wn, fun H1 s1 => ?_⟩
    obtain ⟨l0, l1⟩ := Wn.lo0
    obtain ⟨h0, h1⟩ := Wn.hi0
    have hle := Wn.le
    refine ⟨_, rfl, _, rfl, _, _, rfl, rfl, lo, hi + 1, rfl, ⟨by omega, by omega, by omega, by omega⟩, ?_⟩
    refine for_range (lo := lo) (n := (hi + 1 - lo).toNat) (fun i σ H2 => ∃ v6, σ = [some (.ref pa), some (.ref wl), some (.ref ml), some (.int wk), some (.int lo), some (.int hi), v6] ∧ (∀ j : Nat, j < i → tornAt prog ks ws wk (lo + (j : Int)) = false) ∧ Same H H2)
      ⟨_, rfl, fun j hj => by omega, s1⟩ ?_ ?_
    · rintro i σ H2 hi' ⟨v6, rfl, hno, s2⟩
      refine ⟨_, rfl, _, rfl, _, rfl, _, rfl, _, rfl, by show 2 ≤ sizeLine; decide, fun t nt => ?_⟩
      have s3 : Same H2 (upd H2 t (.tup [.int (lo + (i : Int)), .int wk])) := Same.new (Same.refl _) nt
      have h3 : upd H2 t (.tup [.int (lo + (i : Int)), .int wk]) t = some (.tup [.int (lo + (i : Int)), .int wk]) := upd_same
      generalize upd H2 t (.tup [.int (lo + (i : Int)), .int wk]) = H3 at s3 h3
      refine ⟨by show 1 ≤ sizeLine; decide, fun al nal => ?_⟩
      have s4 : Same H3 (upd H3 al (.lst [.ref t])) := Same.new (Same.refl _) nal
      have h4 : upd H3 al (.lst [.ref t]) al = some (.lst [.ref t]) := upd_same
      have A4 : TupsAt (upd H3 al (.lst [.ref t])) al [t] ([(lo + (i : Int), wk)].map puV) := asks_one h4 (s4 _ _ h3)
      generalize upd H3 al (.lst [.ref t]) = H4 at s4 h4 A4
      have s04 := (s2.trans s3).trans s4
      have G4 := G.same s04
      have brg : rg 0 200 (lo + (i : Int)) := ⟨by omega, by show lo + (i : Int) ≤ 200; omega⟩
      refine ⟨pa, wl, ml, al, rs, ts, [t], prog, ks, ws, [(lo + (i : Int), wk)], 300, rfl, ⟨G4.pr, G.p0, G.p40, G.pok, G4.W, G.k6, G.kok, G4.M, G.w4, G.w32, G.wok, A4.asksT, ao_one brg Wn.w0 Wn.w1⟩, ⟨by decide, by decide⟩, fun H5 R us nR T5 s5 => ?_⟩ -- tears_within(..)
      have T5 : TupsAt H5 R us ((tornsOf prog [(lo + (i : Int), wk)] ks ws 300).map t3V) := T5
      have ul : us.length = (tornsOf prog [(lo + (i : Int), wk)] ks ws 300).length := by rw [T5.len, List.length_map]
      have eb : (!(us.map V.ref).isEmpty) = tornAt prog ks ws wk (lo + (i : Int)) := by
        unfold tornAt
        cases us with
        | nil =>
          have : tornsOf prog [(lo + (i : Int), wk)] ks ws 300 = [] := List.length_eq_zero_iff.mp (by rw [← ul]; rfl)
          rw [this]
          rfl
        | cons u r =>
          cases ht : tornsOf prog [(lo + (i : Int), wk)] ks ws 300 with
          | nil => rw [ht] at ul; simp at ul
          | cons x y => rfl
      refine ⟨tornAt prog ks ws wk (lo + (i : Int)), .inl ⟨_, SqL.of T5.lst, eb.symm⟩, ?_⟩
      cases hb : tornAt prog ks ws wk (lo + (i : Int)) with
      | true =>
        refine iteT ⟨_, rfl, ?_⟩
        have := q _ (s04.trans s5)
        rw [firstT_hit hno hi' hb] at this
        exact this
      | false =>
        refine iteF ⟨_, rfl, fun j hj => ?_, s04.trans s5⟩
        by_cases e : j = i
        · rw [e]; exact hb
        · exact hno j (by omega)
    · rintro σ H2 ⟨v6, rfl, hno, s2⟩
      have := q _ s2
      rw [firstT_none hno] at this
      exact this
end
end SB

set_option Elab.async false
set_option linter.all false
set_option maxRecDepth 100000
set_option maxHeartbeats 2000000
namespace SB
open PySem L2
inductive Clm where
  | over (wk row : Int) | whole (row : Int) | kept (lo hi one other : Int)
def Clm.vs : Clm → List V
  | .over a b => [.str "over", .int a, .int b]
  | .whole a => [.str "whole", .int a]
  | .kept a b c d => [.str "kept", .int a, .int b, .int c, .int d]
def Clm.ok (prog : List Row) (m : Nat) : Clm → Prop
  | .over a b => (0 ≤ a ∧ a < m) ∧ 0 ≤ b ∧ b < prog.length
  | .whole a => 0 ≤ a ∧ ∃ x y, prog[a.toNat]? = some (.pair x y)
  | .kept a b c d => (rg 0 31 a ∧ rg 0 31 b ∧ a ≤ b) ∧ (0 ≤ c ∧ c < prog.length) ∧ 0 ≤ d ∧ d < prog.length
section
variable {P : Program} {w : World} {K : PySem.W.Frag} {mg : Str → Option Value} {base : Heap} {H H' : Hp} {σ : L2.St} {D : Ends} {t : Addr} {i j l m : Nat} {b : TS} {u : TMc} {x : Str} {a c d e : V}
theorem tm_hit4 (ht : SqT K H t [.str x, a, c, d, e]) (q : b D (bindAll [(i, a), (j, c), (l, d), (m, e)] σ) H) : tmCons (tpSeq K 5 (tqCons (tpStr x) (tqCons (tpName i) (tqCons (tpName j) (tqCons (tpName l) (tqCons (tpName m) tqNil)))))) b u (.ref t) D σ H :=
  ⟨t, _, rfl, ht, by
    refine iteP rfl ?_
    refine ⟨_, _, rfl, rfl, ?_⟩
    rw [if_pos rfl]
    exact ⟨_, _, rfl, _, _, rfl, _, _, rfl, _, _, rfl, q⟩⟩
def sp_is_pair (K : PySem.W.Frag) : Sp := fun vs H Q _ => ∃ (pa : Addr) (rs : List Addr) (prog : List Row) (row : Int) (r : Row), vs = [.int row, .ref pa] ∧ ProgAt K H pa rs prog ∧ 0 ≤ row ∧ prog[row.toNat]? = some r ∧ Q (.bl (decide (r.nm = "pair"))) H
theorem ok_is_pair (T : T w K mg) : FnR P w K mg base CX0 3 (He.ga K "is_pair") (sp_is_pair K) := by
  have F_is_one_of : FnR P w K mg base CX0 2 _ _ := ok_is_one_of T
  obtain ⟨fd, F⟩ := T.f_is_pair
  refine F.r sc_is_pair (fun _ _ _ _ _ _ us hl => match us, hl with | [_, _], _ => rfl) (fun vs H Q E h => ?_) (fun cdv A outer s H vs Q E hr h => ?_)
  · obtain ⟨_, _, _, _, _, rfl, _⟩ := h
    rfl
  · obtain ⟨pa, rs, prog, row, r, rfl, Pr, h0, hrow, q⟩ := h
    obtain ⟨t', e1, hrt⟩ := Pr.get hrow
    have hl := (List.getElem?_eq_some_iff.mp hrow).1
    refine ⟨_, (pss_one (ps_ret (pe_and (pe_callR F_is_one_of (hr.mono (by decide)) rfl T.g_is_one_of T.k_is_one_of (pa_cons (pv 0) (pa_cons (pe_callB call_len_seq rfl T.u_len PySem.boot_len (pa_cons (pv 1) pa_nil)) pa_nil))) (pe_one (pe_cmpR op_eq (pe_ix ix_tup (pe_ix ix_tup (pv 1) (pv 0) (fun _ _ => rfl)) pe_int (fun _ _ => rfl)) pe_str (nomark _)))))), ?_⟩
    refine ⟨_, rfl, _, rfl, _, _, rfl, .inr Pr.tup, _, _, "int", rfl, .int _, ?_⟩
    rw [List.length_map, Pr.len, num_ok (show rg 0 ((prog.length : Int) - 1) row from ⟨h0, by omega⟩)]
    refine ⟨_, rfl, iteT ?_⟩
    refine ⟨_, rfl, _, rfl, _, _, _, _, rfl, rfl, Pr.tup, at_rf h0 e1, ?_⟩
    refine ⟨_, _, _, .str r.nm, rfl, rfl, hrt, by rw [Row.vs_eq]; exact at0 _ _, rfl, ?_⟩
    rw [dec_str]
    exact q
def sp_check_pair (K : PySem.W.Frag) : Sp := fun vs H Q _ => ∃ (pa : Addr) (rs : List Addr) (prog : List Row) (row : Int) (x y : Int), vs = [.int row, .ref pa] ∧ ProgAt K H pa rs prog ∧ 0 ≤ row ∧ prog[row.toNat]? = some (.pair x y) ∧ Q .non H
theorem ok_check_pair (T : T w K mg) : FnR P w K mg base CX0 4 (He.ga K "check_pair") (sp_check_pair K) := by
  have F_is_pair : FnR P w K mg base CX0 3 _ _ := ok_is_pair T
  obtain ⟨fd, F⟩ := T.f_check_pair
  refine F.r sc_check_pair (fun _ _ _ _ _ _ us hl => match us, hl with | [_, _], _ => rfl) (fun vs H Q E h => ?_) (fun cdv A outer s H vs Q E hr h => ?_)
  · obtain ⟨_, _, _, _, _, _, rfl, _⟩ := h
    rfl
  · obtain ⟨pa, rs, prog, row, x, y, rfl, Pr, h0, hrow, q⟩ := h
    refine ⟨_, (pss_one (ps_if (pt_not (pt_val (pe_callR F_is_pair (hr.mono (by decide)) rfl T.g_is_pair T.k_is_pair (pa_cons (pv 0) (pa_cons (pv 1) pa_nil)))))
  (pss_one ps_never)
  pss_nil)), ?_⟩
    exact ⟨_, rfl, _, rfl, pa, rs, prog, row, _, rfl, Pr, h0, hrow, _, rfl, iteF q⟩
def sp_check_mark (K : PySem.W.Frag) : Sp := fun vs H Q _ => ∃ (m : Int), vs = [.int m] ∧ rg 0 2 m ∧ Q .non H
def sp_is_claim (K : PySem.W.Frag) : Sp := fun vs H Q _ => ∃ (ca pa wl : Addr) (rs : List Addr) (prog : List Row) (xs : List V) (c : Clm), vs = [.ref ca, .ref pa, .ref wl] ∧ SqT K H ca c.vs ∧ ProgAt K H pa rs prog ∧ SqL K H wl xs ∧ c.ok prog xs.length ∧ Q (.bl true) H
theorem ok_is_claim (T : T w K mg) : FnR P w K mg base CX0 4 (He.ga K "is_claim") (sp_is_claim K) := by
  have F_is_part : FnR P w K mg base CX0 2 _ _ := ok_is_part T
  have F_is_one_of : FnR P w K mg base CX0 2 _ _ := ok_is_one_of T
  have F_is_pair : FnR P w K mg base CX0 3 _ _ := ok_is_pair T
  obtain ⟨fd, F⟩ := T.f_is_claim
  refine F.r sc_is_claim (fun _ _ _ _ _ _ us hl => match us, hl with | [_, _, _], _ => rfl) (fun vs H Q E h => ?_) (fun cdv A outer s H vs Q E hr h => ?_)
  · obtain ⟨_, _, _, _, _, _, _, rfl, _⟩ := h
    rfl
  · obtain ⟨ca, pa, wl, rs, prog, xs, c, rfl, hc, Pr, hl, ok, q⟩ := h
    refine ⟨_, (pss_cons (ps_if (pt_not (pt_val (pe_isi (n := "tuple") rfl T.u_isinstance rfl T.u_tuple (pv 0))))
  (pss_one (ps_ret pe_bl))
  pss_nil)
  (pss_cons (ps_match (pv 0) (pm_cons sc_is_claim.nd (pp_seq rfl (pq_cons pp_str (pq_cons (pp_name (i := 3) rfl (Or.inl rfl)) (pq_cons (pp_name (i := 4) rfl (Or.inl rfl)) pq_nil)))) (pss_one (ps_ret (pe_and (pe_callR F_is_one_of (hr.mono (by decide)) rfl T.g_is_one_of T.k_is_one_of (pa_cons (pv 3) (pa_cons (pe_callB call_len_seq rfl T.u_len PySem.boot_len (pa_cons (pv 2) pa_nil)) pa_nil))) (pe_one (pe_callR F_is_one_of (hr.mono (by decide)) rfl T.g_is_one_of T.k_is_one_of (pa_cons (pv 4) (pa_cons (pe_callB call_len_seq rfl T.u_len PySem.boot_len (pa_cons (pv 1) pa_nil)) pa_nil)))))))
  (pm_cons sc_is_claim.nd (pp_seq rfl (pq_cons pp_str (pq_cons (pp_name (i := 4) rfl (Or.inl rfl)) pq_nil))) (pss_one (ps_ret (pe_callR F_is_pair (hr.mono (by decide)) rfl T.g_is_pair T.k_is_pair (pa_cons (pv 4) (pa_cons (pv 1) pa_nil)))))
  (pm_cons sc_is_claim.nd (pp_seq rfl (pq_cons pp_str (pq_cons (pp_name (i := 5) rfl (Or.inl rfl)) (pq_cons (pp_name (i := 6) rfl (Or.inl rfl)) (pq_cons (pp_name (i := 7) rfl (Or.inl rfl)) (pq_cons (pp_name (i := 8) rfl (Or.inl rfl)) pq_nil)))))) (pss_cons (ps_set (i := 9) sc_is_claim.nd rfl (Or.inl rfl) (pe_and (pe_callR F_is_part (hr.mono (by decide)) rfl T.g_is_part T.k_is_part (pa_cons (pv 5) (pa_cons pe_str pa_nil))) (pe_and (pe_callR F_is_part (hr.mono (by decide)) rfl T.g_is_part T.k_is_part (pa_cons (pv 6) (pa_cons pe_str pa_nil))) (pe_one (pe_cmpR op_le (pv 5) (pv 6) (nomark _))))))
  (pss_one (ps_ret (pe_and (pv 9) (pe_and (pe_callR F_is_one_of (hr.mono (by decide)) rfl T.g_is_one_of T.k_is_one_of (pa_cons (pv 7) (pa_cons (pe_callB call_len_seq rfl T.u_len PySem.boot_len (pa_cons (pv 1) pa_nil)) pa_nil))) (pe_one (pe_callR F_is_one_of (hr.mono (by decide)) rfl T.g_is_one_of T.k_is_one_of (pa_cons (pv 8) (pa_cons (pe_callB call_len_seq rfl T.u_len PySem.boot_len (pa_cons (pv 1) pa_nil)) pa_nil)))))))))
  pm_nil))))
  (pss_one (ps_ret pe_bl)))), ?_⟩
    refine ⟨_, rfl, rfl, _, .tup hc, _, rfl, iteF ?_⟩ -- isinstance(claim, tuple)
    refine ⟨_, rfl, ?_⟩ -- claim
    cases c with
    | over a b =>
      obtain ⟨⟨a0, a1⟩, b0, b1⟩ := ok
      refine tm_hit2 hc ?_
      refine ⟨.int a, by kernel_rfl, .ref wl, by kernel_rfl, _, _, rfl, .inl hl, _, _, "int", rfl, .int _, ?_⟩
      rw [num_ok (show rg 0 ((xs.length : Int) - 1) a from ⟨a0, by omega⟩)]
      refine ⟨_, rfl, iteT ?_⟩
      refine ⟨.int b, by kernel_rfl, .ref pa, by kernel_rfl, _, _, rfl, .inr Pr.tup, _, _, "int", rfl, .int _, ?_⟩
      rw [List.length_map, Pr.len, num_ok (show rg 0 ((prog.length : Int) - 1) b from ⟨b0, by omega⟩)]
      exact q
    | whole a =>
      obtain ⟨a0, x, y, hp⟩ := ok
      refine tm_len hc (by show 2 ≠ 3; decide) ?_
      refine tm_hit1 hc ?_
      refine ⟨.int a, by kernel_rfl, .ref pa, by kernel_rfl, pa, rs, prog, a, _, rfl, Pr, a0, hp, ?_⟩
      exact q
    | kept a b c d =>
      obtain ⟨⟨a0, a1, ab⟩, ⟨c0, c1⟩, d0, d1⟩ := ok
      refine tm_len hc (by show 5 ≠ 3; decide) ?_
      refine tm_len hc (by show 5 ≠ 2; decide) ?_
      refine tm_hit4 hc ?_
      refine ⟨.int a, by kernel_rfl, _, _, 0, 31, "int", rfl, T.e_BOUNDS_address, .int _, ?_⟩
      rw [num_ok a0]
      refine ⟨_, rfl, iteT ?_⟩
      refine ⟨.int b, by kernel_rfl, _, _, 0, 31, "int", rfl, T.e_BOUNDS_address, .int _, ?_⟩
      rw [num_ok a1]
      refine ⟨_, rfl, iteT ?_⟩
      refine ⟨.int a, by kernel_rfl, .int b, by kernel_rfl, _, _, rfl, rfl, ?_⟩
      dsimp only [gName]
      rw [decide_eq_true ab]
      refine ⟨.bl true, by kernel_rfl, _, rfl, iteT ?_⟩
      refine ⟨.int c, by kernel_rfl, .ref pa, by kernel_rfl, _, _, rfl, .inr Pr.tup, _, _, "int", rfl, .int _, ?_⟩
      rw [List.length_map, Pr.len, num_ok (show rg 0 ((prog.length : Int) - 1) c from ⟨c0, by omega⟩)]
      refine ⟨_, rfl, iteT ?_⟩
      refine ⟨.int d, by kernel_rfl, .ref pa, by kernel_rfl, _, _, rfl, .inr Pr.tup, _, _, "int", rfl, .int _, ?_⟩
      rw [List.length_map, Pr.len, num_ok (show rg 0 ((prog.length : Int) - 1) d from ⟨d0, by omega⟩)]
      exact q
def sp_check_claim (K : PySem.W.Frag) : Sp := fun vs H Q _ => ∃ (ca pa wl : Addr) (rs : List Addr) (prog : List Row) (xs : List V) (c : Clm), vs = [.ref ca, .ref pa, .ref wl] ∧ SqT K H ca c.vs ∧ ProgAt K H pa rs prog ∧ SqL K H wl xs ∧ c.ok prog xs.length ∧ Q .non H
theorem ok_check_claim (T : T w K mg) : FnR P w K mg base CX0 5 (He.ga K "check_claim") (sp_check_claim K) := by
  have F_is_claim : FnR P w K mg base CX0 4 _ _ := ok_is_claim T
  obtain ⟨fd, F⟩ := T.f_check_claim
  refine F.r sc_check_claim (fun _ _ _ _ _ _ us hl => match us, hl with | [_, _, _], _ => rfl) (fun vs H Q E h => ?_) (fun cdv A outer s H vs Q E hr h => ?_)
  · obtain ⟨_, _, _, _, _, _, _, rfl, _⟩ := h
    rfl
  · obtain ⟨ca, pa, wl, rs, prog, xs, c, rfl, hc, Pr, hl, ok, q⟩ := h
    refine ⟨_, (pss_one (ps_if (pt_not (pt_val (pe_callR F_is_claim (hr.mono (by decide)) rfl T.g_is_claim T.k_is_claim (pa_cons (pv 0) (pa_cons (pv 1) (pa_cons (pv 2) pa_nil))))))
  (pss_one ps_never)
  pss_nil)), ?_⟩
    exact ⟨_, rfl, _, rfl, _, rfl, ca, pa, wl, rs, prog, xs, c, rfl, hc, Pr, hl, ok, _, rfl, iteF q⟩
end
end SB

set_option Elab.async false
set_option linter.all false
set_option maxRecDepth 100000
set_option maxHeartbeats 2000000
namespace SB
open PySem L2
theorem asg_s {te : TE} {i : Nat} {D : Ends} {σ : L2.St} {H : Hp} (h : te σ H fun v H' => D.nx (σ.set i (some v)) H') : tAsg te (gName i) D σ H := h
def onI (ks : List Wk) : List Int := (onFrom 0 ks).map fun p => (p.1 : Int)
theorem onV_I (ks : List Wk) : onV ks = (onI ks).map V.int := by
  unfold onV onI
  rw [List.map_map]
  rfl
theorem in_intsV {a : Int} {xs : List Int} : inV (.int a) (xs.map V.int) = decide (a ∈ xs) := by
  unfold inV
  induction xs with
  | nil => rfl
  | cons x r ih =>
    rw [List.map_cons, List.any_cons, ih]
    have e : eqV (V.int x) (V.int a) = decide (x = a) := by
      first | rfl | (unfold eqV; simp) | (show (x == a) = _; exact rfl)
    rw [e]
    by_cases h : x = a
    · subst h
      simp
    · have h' : ¬ a = x := fun z => h z.symm
      simp [h, h']
theorem flat_intsV (xs : List Int) : (xs.map V.int).all flatV = true := by
  induction xs with
  | nil => rfl
  | cons x r ih =>
    rw [List.map_cons, List.all_cons, ih]
    rfl
structure Seen (K : PySem.W.Frag) (H : Hp) (wt dw : Addr) (k : Wa) (ps gs : List Addr) (dnf : Int → Option Int) (ons : Int → List Int) (ys : List Pq) (G : List Go) : Prop where
  wo : H wt = some (.ins (cWatch K) dw (waF k))
  dn : ∃ kvs : List (Key × V), H k.dones = some (.dK kvs) ∧ ∀ r : Int, valV kvs (.inl r) = (dnf r).map V.int
  ob : ∃ kvs : List (Key × V), H k.on_behind = some (.dK kvs) ∧ ∀ r t : Int, dnf r = some t → ∃ D, valV kvs (.inl r) = some (.ref D) ∧ H D = some (.lst ((ons t).map V.int))
  pr : PairsAt H k.pairs ps ys
  go : GosAt K H k.goings gs G
theorem Seen.same {K : PySem.W.Frag} {H H' : Hp} {wt dw : Addr} {k : Wa} {ps gs : List Addr} {dnf : Int → Option Int} {ons : Int → List Int} {ys : List Pq} {G : List Go} (h : Seen K H wt dw k ps gs dnf ons ys G) (s : Same H H') : Seen K H' wt dw k ps gs dnf ons ys G := by
  obtain ⟨kv1, d1, d2⟩ := h.dn
  obtain ⟨kv2, o1, o2⟩ := h.ob
  exact ⟨s _ _ h.wo, ⟨kv1, s _ _ d1, d2⟩, ⟨kv2, s _ _ o1, fun r t e => let ⟨D, a1, a2⟩ := o2 r t e; ⟨D, a1, s _ _ a2⟩⟩, h.pr.same s, h.go.same s⟩
def wholeB (ks : List Wk) (size : Nat) (G : List Go) (ys : List Pq) (row : Int) : Bool := (tornsL ks size G (ys.filter fun y => decide (y.1 = row))).isEmpty
def overB (dnf : Int → Option Int) (ons : Int → List Int) (wk row : Int) : Bool := match dnf row with
  | none => true
  | some t => !decide (wk ∈ ons t)
def putIn (b u lo hi : Int) (p : Int × Int) : Bool := (decide (b < p.1) && decide (p.1 ≤ u)) && (decide (lo ≤ p.2) && decide (p.2 ≤ hi))
def keptB (dnf : Int → Option Int) (G : List Go) (lo hi one other : Int) : Bool := match dnf one with
  | none => true
  | some b => !(G.any fun e => e.pu.any (putIn b ((dnf other).getD 300) lo hi))
def holdsB (dnf : Int → Option Int) (ons : Int → List Int) (ys : List Pq) (G : List Go) (ks : List Wk) (size : Nat) : Clm → Bool
  | .over wk row => overB dnf ons wk row
  | .whole row => wholeB ks size G ys row
  | .kept lo hi one other => keptB dnf G lo hi one other
section
variable {P : Program} {w : World} {K : PySem.W.Frag} {mg : Str → Option Value} {base : Heap} {H H' : Hp}
def sp_is_whole (K : PySem.W.Frag) : Sp := fun vs H Q _ => ∃ (wt dw wl : Addr) (k : Wa) (ps gs ts : List Addr) (dnf : Int → Option Int) (ons : Int → List Int) (ys : List Pq) (G : List Go) (ks : List Wk) (size : Nat) (row : Int), vs = [.ref wt, .ref wl, .int (size : Int), .int row] ∧ Seen K H wt dw k ps gs dnf ons ys G ∧ WorksAt K H wl ts ks ∧ (∀ e ∈ G, e.n < ks.length ∧ e.pu.length ≤ 1000) ∧ 0 < size ∧ ys.length ≤ 1000 ∧ ys.length * G.length ≤ 1000000 ∧
  ∀ H', Same H H' → Q (.bl (wholeB ks size G ys row)) H'
theorem ok_is_whole (T : T w K mg) : FnR P w K mg base CX0 4 (He.ga K "is_whole") (sp_is_whole K) := by
  have F_tears : FnR P w K mg base CX0 3 _ _ := ok_tears T
  obtain ⟨fd, F⟩ := T.f_is_whole
  refine F.r sc_is_whole (fun _ _ _ _ _ _ us hl => match us, hl with | [_, _, _, _], _ => rfl) (fun vs H Q E h => ?_) (fun cdv A outer s0 H vs Q E hr h => ?_)
  · obtain ⟨_, _, _, _, _, _, _, _, _, _, _, _, _, _, rfl, _⟩ := h
    rfl
  · obtain ⟨wt, dw, wl, k, ps, gs, ts, dnf, ons, ys, G, ks, size, row, rfl, Z, W, gok, h0, y1000, hb, q⟩ := h
    have PP := Z.pr
    refine ⟨_, (pss_cons (ps_setLc (i := 4) (own := [("pair", 5)]) (g := gName 5) (tt := tTest (tOp rEq (tOp (rIxT K) (tVar 5) (tC (.int 0))) (tVar 3))) (te := tVar 5) rfl sc_is_whole.nd rfl rfl (sw_true rfl rfl rfl (by decide +kernel)) (pi_list (pe_fld (pv 0) rfl)) (blkOk_by (N := ["watch", "works", "size", "row", "pairs", "pair"]) (sc := defScope s_is_whole) (by decide +kernel)) (fun _ _ _ _ _ => pg_name (i := 5) sc_is_whole.nd rfl (Or.inl rfl)) (fun _ _ _ _ _ => pts_one (pt_cmpR op_eq (pe_ix ix_tup (pv 5) pe_int (fun _ _ => rfl)) (pv 3) (nomark _))) (fun _ _ _ _ _ => pv 5))
  (pss_one (ps_ret (pe_notT (pe_callR F_tears (hr.mono (by decide)) rfl T.g_tears T.k_tears (pa_cons (pv 0) (pa_cons (pv 4) (pa_cons (pv 1) (pa_cons (pv 2) pa_nil))))))))), ?_⟩
    dsimp only [gName]
    refine seq_s (asg_s ?_)
    refine ⟨_, rfl, _, _, _, _, _, rfl, Z.wo, T.cl_Watch, T.n_Watch_pairs, wa_pairs _, k.pairs, rfl, ⟨_, SqL.of PP.lst⟩, fun R nR => ?_⟩
    refine lc_list (K := K) (a := k.pairs) (xs := ps.map V.ref) (fun i H2 => ∃ us, PairsAt H2 R us ((ys.take i).filter fun y => decide (y.1 = row)) ∧ Same H H2)
      ⟨[], ⟨upd_same, rfl, fun j p y e1 _ => by simp at e1⟩, Same.new (Same.refl _) nR⟩ (fun i H2 _ ⟨_, _, s⟩ => SqL.of (s _ _ PP.lst)) ?_ ?_
    · rintro i x H2 hx ⟨us, T2, s2⟩
      rw [List.getElem?_map] at hx
      cases hp : ps[i]? with
      | none => rw [hp] at hx; cases hx
      | some p =>
        rw [hp] at hx
        cases hx
        have hi : i < ys.length := by rw [← PP.len]; exact (List.getElem?_eq_some_iff.mp hp).1
        obtain ⟨y, hy⟩ : ∃ y, ys[i]? = some y := ⟨_, List.getElem?_eq_getElem hi⟩
        have PA : PairAt H p y := PP.at_ i p y hp hy
        obtain ⟨t1, t2, p0, p1, p2⟩ := PA.same s2
        have et : ys.take (i + 1) = ys.take i ++ [y] := by rw [List.take_add_one, hy]; rfl
        refine ⟨by kernel_rfl, ?_⟩
        refine ⟨.ref p, by kernel_rfl, _, _, _, _, rfl, rfl, SqT.of p0, rfl, .int row, by kernel_rfl, rfl, _, rfl, ?_⟩
        rw [dec_int']
        by_cases hr : y.1 = row
        · rw [decide_eq_true hr]
          refine iteT ⟨.ref p, by kernel_rfl, _, T2.lst, ?_, us ++ [p], ?_, Same.new s2 nR⟩
          · rw [List.length_map, T2.len]
            have h1 : ((ys.take i).filter fun y => decide (y.1 = row)).length ≤ (ys.take i).length := List.length_filter_le _ _
            rw [List.length_take] at h1
            exact Nat.lt_of_le_of_lt (show _ ≤ 1000 by omega) (by decide)
          · have em : us.map V.ref ++ [.ref p] = (us ++ [p]).map V.ref := by simp
            rw [em, et, List.filter_append, List.filter_cons_of_pos (by rw [decide_eq_true hr]), List.filter_nil]
            exact T2.push p0 p1 p2
        · rw [decide_eq_false hr]
          refine iteF ⟨us, ?_, s2⟩
          rw [et, List.filter_append, List.filter_cons_of_neg (by rw [decide_eq_false hr]; decide), List.filter_nil, List.append_nil]
          exact T2
    · rintro H2 ⟨us, T2, s2⟩
      rw [List.length_map, PP.len, List.take_length] at T2
      have Z2 := Z.same s2
      refine ⟨_, rfl, _, rfl, _, rfl, _, rfl, wt, dw, R, wl, k, us, gs, ts, _, G, ks, size, rfl, Z2.wo, T2, Z2.go, W.same s2, gok, h0, ?_, fun H3 R3 qs nR3 T3 s3 => ?_⟩
      · exact Nat.le_trans (Nat.mul_le_mul_right _ (List.length_filter_le _ _)) hb
      have ql := T3.len
      rw [List.length_map] at ql
      have eb : (!(qs.map V.ref).isEmpty) = !wholeB ks size G ys row := by
        unfold wholeB
        cases qs with
        | nil =>
          rw [List.length_eq_zero_iff.mp ql.symm]
          rfl
        | cons u r =>
          cases ht : tornsL ks size G (ys.filter fun y => decide (y.1 = row)) with
          | nil => rw [ht] at ql; simp at ql
          | cons x y => rfl
      refine ⟨!wholeB ks size G ys row, .inl ⟨_, SqL.of T3.lst, eb.symm⟩, ?_⟩
      rw [Bool.not_not]
      exact q _ (s2.trans s3)
def sp_is_over (K : PySem.W.Frag) : Sp := fun vs H Q _ => ∃ (wt dw : Addr) (k : Wa) (ps gs : List Addr) (dnf : Int → Option Int) (ons : Int → List Int) (ys : List Pq) (G : List Go) (wk row : Int), vs = [.ref wt, .int wk, .int row] ∧ Seen K H wt dw k ps gs dnf ons ys G ∧ Q (.bl (overB dnf ons wk row)) H
theorem ok_is_over (T : T w K mg) : FnR P w K mg base CX0 1 (He.ga K "is_over") (sp_is_over K) := by
  obtain ⟨fd, F⟩ := T.f_is_over
  refine F.r sc_is_over (fun _ _ _ _ _ _ us hl => match us, hl with | [_, _, _], _ => rfl) (fun vs H Q E h => ?_) (fun cdv A outer s0 H vs Q E hr h => ?_)
  · obtain ⟨_, _, _, _, _, _, _, _, _, _, _, rfl, _⟩ := h
    rfl
  · obtain ⟨wt, dw, k, ps, gs, dnf, ons, ys, G, wk, row, rfl, Z, q⟩ := h
    have hu := hr.units
    have hu1 : (A.deeper (PyProof.Rows.envOfC "is_over" (defScope s_is_over) s0.heap.objs.size (He.ga K "is_over") cdv)).units + 1 < cLine := by omega
    refine ⟨_, (pss_one (ps_ret (pe_or (pe_cmp (pc_dnotin hu1 (pv 2) (pe_fld (pv 0) rfl))) (pe_one (pe_cmpR op_notIn_seq (pv 1) (pe_dget hu1 (pe_fld (pv 0) rfl) (pv 2) (fun _ _ => rfl)) rfl))))), ?_⟩
    obtain ⟨kv1, d1, d2⟩ := Z.dn
    obtain ⟨kv2, o1, o2⟩ := Z.ob
    refine ⟨_, rfl, _, rfl, _, _, _, _, _, rfl, Z.wo, T.cl_Watch, T.n_Watch_dones, wa_dones _, k.dones, _, rfl, DGet.k (k := .inl row) d1, _, rfl, ?_⟩
    rw [d2]
    unfold overB at q
    cases hd : dnf row with
    | none =>
      rw [hd] at q
      exact iteT q
    | some t =>
      rw [hd] at q
      obtain ⟨D, a1, a2⟩ := o2 row t hd
      refine iteF ?_
      refine ⟨_, rfl, _, rfl, _, _, _, _, _, rfl, Z.wo, T.cl_Watch, T.n_Watch_on_behind, wa_on_behind _, _, rfl, k.on_behind, .ref D, rfl, by rw [← a1]; exact DGet.k (k := .inl row) o1, ?_⟩
      refine ⟨D, _, rfl, .inl (SqL.of a2), rfl, flat_intsV _, ?_⟩
      show Q (.bl (!inV (.int wk) ((ons t).map V.int))) _
      rw [in_intsV]
      exact q
def sp_is_kept (K : PySem.W.Frag) : Sp := fun vs H Q _ => ∃ (wt dw : Addr) (k : Wa) (ps gs : List Addr) (dnf : Int → Option Int) (ons : Int → List Int) (ys : List Pq) (G : List Go) (lo hi one other : Int), vs = [.ref wt, .int lo, .int hi, .int one, .int other] ∧ Seen K H wt dw k ps gs dnf ons ys G ∧ Q (.bl (keptB dnf G lo hi one other)) H
theorem ok_is_kept (T : T w K mg) : FnR P w K mg base CX0 1 (He.ga K "is_kept") (sp_is_kept K) := by
  obtain ⟨t1, g_MOST_BEATS⟩ := T.i_MOST_BEATS
  obtain ⟨fd, F⟩ := T.f_is_kept
  refine F.r sc_is_kept (fun _ _ _ _ _ _ us hl => match us, hl with | [_, _, _, _, _], _ => rfl) (fun vs H Q E h => ?_) (fun cdv A outer s0 H vs Q E hr h => ?_)
  · obtain ⟨_, _, _, _, _, _, _, _, _, _, _, _, _, rfl, _⟩ := h
    rfl
  · obtain ⟨wt, dw, k, ps, gs, dnf, ons, ys, G, lo, hi, one, other, rfl, Z, q⟩ := h
    have hu := hr.units
    have hu1 : (A.deeper (PyProof.Rows.envOfC "is_kept" (defScope s_is_kept) s0.heap.objs.size (He.ga K "is_kept") cdv)).units + 1 < cLine := by omega
    refine ⟨_, (pss_cons (ps_if (pt_cmp (pc_dnotin hu1 (pv 3) (pe_fld (pv 0) rfl)))
  (pss_one (ps_ret pe_bl))
  pss_nil)
  (pss_cons (ps_par rfl sc_is_kept.nd (i := 5) (j := 6) rfl rfl (by decide) rfl rfl (pa_cons (pe_dget hu1 (pe_fld (pv 0) rfl) (pv 3) (fun _ _ => rfl)) (pa_cons (pe_dget2 hu1 (pe_fld (pv 0) rfl) (pv 4) (pe_glob (v := .int 300) rfl g_MOST_BEATS ⟨_, rfl⟩) ⟨rfl, rfl, rfl, rfl⟩) pa_nil)) rfl)
  (pss_cons (ps_for PassesOwn.never rfl (pi_list (pe_fld (pv 0) rfl)) (pg_name (i := 7) sc_is_kept.nd rfl (Or.inl rfl))
  (pss_one (ps_for PassesOwn.never rfl (pi_list (pe_fld (pv 7) rfl)) (pg_tup rfl (pgs_cons (pg_name (i := 8) sc_is_kept.nd rfl (Or.inl rfl)) (pgs_cons (pg_name (i := 9) sc_is_kept.nd rfl (Or.inl rfl)) pgs_nil)))
  (pss_one (ps_if (PW.pt (pw_and (pt_chain op_lt op_le (pv 5) (pv 8) (pv 6)) (pw_and1 (pt_chain op_le op_le (pv 1) (pv 9) (pv 2)))))
  (pss_one (ps_ret pe_bl))
  pss_nil)))))
  (pss_one (ps_ret pe_bl))))), ?_⟩
    obtain ⟨kv1, d1, d2⟩ := Z.dn
    refine ⟨_, rfl, _, rfl, _, _, _, _, _, rfl, Z.wo, T.cl_Watch, T.n_Watch_dones, wa_dones _, k.dones, _, rfl, DGet.k (k := .inl one) d1, _, rfl, ?_⟩
    rw [d2]
    unfold keptB at q
    cases hd : dnf one with
    | none =>
      rw [hd] at q
      exact iteT q
    | some b =>
      rw [hd] at q
      refine iteF ?_
      have e1 : valV kv1 (.inl one) = some (.int b) := by rw [d2, hd]; rfl
      refine ⟨_, rfl, _, _, _, _, _, rfl, Z.wo, T.cl_Watch, T.n_Watch_dones, wa_dones _, _, rfl, k.dones, .int b, rfl, by rw [← e1]; exact DGet.k (k := .inl one) d1, ?_⟩
      refine ⟨_, rfl, _, _, _, _, _, rfl, Z.wo, T.cl_Watch, T.n_Watch_dones, wa_dones _, k.dones, rfl, .inl ⟨_, .inl d1⟩, _, rfl, _, DGet.k (k := .inl other) d1, ?_⟩
      have e2 : (valV kv1 (.inl other)).getD (.int 300) = V.int ((dnf other).getD 300) := by
        rw [d2]
        cases dnf other <;> rfl
      rw [e2]
      generalize (dnf other).getD 300 = u at q
      refine ⟨_, _, rfl, ?_⟩
      refine ⟨_, rfl, _, _, _, _, _, rfl, Z.wo, T.cl_Watch, T.n_Watch_goings, wa_goings _, k.goings, rfl, ⟨_, SqL.of Z.go.lst⟩, ?_⟩
      refine for_list (K := K) (a := k.goings) (xs := gs.map V.ref) (fun i σ H2 => ∃ v7 v8 v9, σ = [some (.ref wt), some (.int lo), some (.int hi), some (.int one), some (.int other), some (.int b), some (.int u), v7, v8, v9] ∧ ((G.take i).any fun e => e.pu.any (putIn b u lo hi)) = false ∧ H2 = H)
        ⟨_, _, _, rfl, rfl, rfl⟩ (fun i σ H2 _ ⟨_, _, _, _, _, e⟩ => by rw [e]; exact SqL.of Z.go.lst) ?_ ?_
      · rintro i x σ H2 hx ⟨v7, v8, v9, rfl, hno, rfl⟩
        rw [List.getElem?_map] at hx
        cases hg : gs[i]? with
        | none => rw [hg] at hx; cases hx
        | some g =>
          rw [hg] at hx
          cases hx
          have hm : i < G.length := by rw [← Z.go.len]; exact (List.getElem?_eq_some_iff.mp hg).1
          obtain ⟨e, he⟩ : ∃ e, G[i]? = some e := ⟨_, List.getElem?_eq_getElem hm⟩
          obtain ⟨dg, plg, psg, hgo, tpg⟩ := Z.go.at_ i g e hg he
          have eG : G.take (i + 1) = G.take i ++ [e] := by rw [List.take_add_one, he]; rfl
          have nz : V.ref plg = V.ref plg := rfl
          refine ⟨_, rfl, _, _, _, _, _, rfl, hgo, T.cl_Going, T.n_Going_puts, gg_puts _, plg, rfl, ⟨_, SqL.of tpg.lst⟩, ?_⟩
          refine for_list (K := K) (a := plg) (xs := psg.map V.ref) (fun j σ H3 => ∃ v8 v9, σ = [some (.ref wt), some (.int lo), some (.int hi), some (.int one), some (.int other), some (.int b), some (.int u), some (.ref g), v8, v9] ∧ ((e.pu.take j).any (putIn b u lo hi)) = false ∧ H3 = H2)
            ⟨_, _, rfl, rfl, rfl⟩ (fun i σ H3 _ ⟨_, _, _, _, e⟩ => by rw [e]; exact SqL.of tpg.lst) ?_ ?_
          · rintro j x σ H3 hx ⟨u8, u9, rfl, hno2, rfl⟩
            rw [List.getElem?_map] at hx
            cases hp : psg[j]? with
            | none => rw [hp] at hx; cases hx
            | some p =>
              rw [hp] at hx
              cases hx
              have hj : j < e.pu.length := by
                have := (List.getElem?_eq_some_iff.mp hp).1
                rw [tpg.len, List.length_map] at this
                exact this
              obtain ⟨y, hy⟩ : ∃ y, e.pu[j]? = some y := ⟨_, List.getElem?_eq_getElem hj⟩
              have hpt := tpg.at_ j p (puV y) hp (by rw [List.getElem?_map, hy]; rfl)
              have et : e.pu.take (j + 1) = e.pu.take j ++ [y] := by rw [List.take_add_one, hy]; rfl
              have fin : putIn b u lo hi y = false → ((e.pu.take (j + 1)).any (putIn b u lo hi)) = false := fun z => by
                rw [et, List.any_append, hno2]
                simp [z]
              refine ⟨p, _, rfl, SqT.of hpt, rfl, _, _, rfl, _, _, rfl, rfl, ?_⟩
              refine ⟨_, rfl, _, rfl, _, _, rfl, rfl, _, rfl, ?_⟩
              by_cases c1 : b < y.1
              · rw [decide_eq_true c1]
                refine iteT ⟨_, rfl, _, _, rfl, rfl, _, rfl, ?_⟩
                by_cases c2 : y.1 ≤ u
                · rw [decide_eq_true c2]
                  refine iteT ⟨_, rfl, _, rfl, _, _, rfl, rfl, _, rfl, ?_⟩
                  by_cases c3 : lo ≤ y.2
                  · rw [decide_eq_true c3]
                    refine iteT ⟨_, rfl, _, _, rfl, rfl, _, rfl, ?_⟩
                    by_cases c4 : y.2 ≤ hi
                    · rw [decide_eq_true c4]
                      refine iteT ?_
                      have hit : (G.any fun e => e.pu.any (putIn b u lo hi)) = true := by
                        rw [List.any_eq_true]
                        refine ⟨e, List.mem_of_getElem? he, ?_⟩
                        rw [List.any_eq_true]
                        refine ⟨y, List.mem_of_getElem? hy, ?_⟩
                        unfold putIn
                        rw [decide_eq_true c1, decide_eq_true c2, decide_eq_true c3, decide_eq_true c4]
                        rfl
                      simp only [hit] at q
                      exact q
                    · rw [decide_eq_false c4]
                      refine iteF ⟨_, _, rfl, fin ?_, rfl⟩
                      unfold putIn
                      rw [decide_eq_false c4]
                      simp
                  · rw [decide_eq_false c3]
                    refine iteF ⟨_, rfl, iteF ⟨_, _, rfl, fin ?_, rfl⟩⟩
                    unfold putIn
                    rw [decide_eq_false c3]
                    simp
                · rw [decide_eq_false c2]
                  refine iteF (iteF ⟨_, _, rfl, fin ?_, rfl⟩)
                  unfold putIn
                  rw [decide_eq_false c2]
                  simp
              · rw [decide_eq_false c1]
                refine iteF ⟨_, rfl, iteF (iteF ⟨_, _, rfl, fin ?_, rfl⟩)⟩
                unfold putIn
                rw [decide_eq_false c1]
                simp
          · rintro σ H3 ⟨u8, u9, rfl, hno2, rfl⟩
            rw [List.length_map, tpg.len, List.length_map, List.take_length] at hno2
            refine ⟨_, _, _, rfl, ?_, rfl⟩
            rw [eG, List.any_append, hno]
            simp [hno2]
      · rintro σ H2 ⟨v7, v8, v9, rfl, hno, rfl⟩
        rw [List.length_map, Z.go.len, List.take_length] at hno
        simp only [hno] at q
        exact q
def sp_holds (K : PySem.W.Frag) : Sp := fun vs H Q _ => ∃ (ca wt dw wl : Addr) (c : Clm) (k : Wa) (ps gs ts : List Addr) (dnf : Int → Option Int) (ons : Int → List Int) (ys : List Pq) (G : List Go) (ks : List Wk) (size : Nat), vs = [.ref ca, .ref wt, .ref wl, .int (size : Int)] ∧ SqT K H ca c.vs ∧ Seen K H wt dw k ps gs dnf ons ys G ∧ WorksAt K H wl ts ks ∧ (∀ e ∈ G, e.n < ks.length ∧ e.pu.length ≤ 1000) ∧ 0 < size ∧ ys.length ≤ 1000 ∧ ys.length * G.length ≤ 1000000 ∧
  ∀ H', Same H H' → Q (.bl (holdsB dnf ons ys G ks size c)) H'
theorem ok_holds (T : T w K mg) : FnR P w K mg base CX0 5 (He.ga K "holds") (sp_holds K) := by
  have F_is_over : FnR P w K mg base CX0 1 _ _ := ok_is_over T
  have F_is_whole : FnR P w K mg base CX0 4 _ _ := ok_is_whole T
  have F_is_kept : FnR P w K mg base CX0 1 _ _ := ok_is_kept T
  obtain ⟨fd, F⟩ := T.f_holds
  refine F.r sc_holds (fun _ _ _ _ _ _ us hl => match us, hl with | [_, _, _, _], _ => rfl) (fun vs H Q E h => ?_) (fun cdv A outer s0 H vs Q E hr h => ?_)
  · obtain ⟨_, _, _, _, _, _, _, _, _, _, _, _, _, _, _, rfl, _⟩ := h
    rfl
  · obtain ⟨ca, wt, dw, wl, c, k, ps, gs, ts, dnf, ons, ys, G, ks, size, rfl, hc, Z, W, gok, h0, y1000, hb, q⟩ := h
    refine ⟨_, (pss_cons (ps_if (pt_cmpR op_eq (pe_ix ix_tup (pv 0) pe_int (fun _ _ => rfl)) pe_str (nomark _))
  (pss_one (ps_ret (pe_callR F_is_over (hr.mono (by decide)) rfl T.g_is_over T.k_is_over (pa_cons (pv 1) (pa_cons (pe_ix ix_tup (pv 0) pe_int (fun _ _ => rfl)) (pa_cons (pe_ix ix_tup (pv 0) pe_int (fun _ _ => rfl)) pa_nil))))))
  pss_nil)
  (pss_cons (ps_if (pt_cmpR op_eq (pe_ix ix_tup (pv 0) pe_int (fun _ _ => rfl)) pe_str (nomark _))
  (pss_one (ps_ret (pe_callR F_is_whole (hr.mono (by decide)) rfl T.g_is_whole T.k_is_whole (pa_cons (pv 1) (pa_cons (pv 2) (pa_cons (pv 3) (pa_cons (pe_ix ix_tup (pv 0) pe_int (fun _ _ => rfl)) pa_nil)))))))
  pss_nil)
  (pss_one (ps_ret (pe_callR F_is_kept (hr.mono (by decide)) rfl T.g_is_kept T.k_is_kept (pa_cons (pv 1) (pa_cons (pe_ix ix_tup (pv 0) pe_int (fun _ _ => rfl)) (pa_cons (pe_ix ix_tup (pv 0) pe_int (fun _ _ => rfl)) (pa_cons (pe_ix ix_tup (pv 0) pe_int (fun _ _ => rfl)) (pa_cons (pe_ix ix_tup (pv 0) pe_int (fun _ _ => rfl)) pa_nil)))))))))), ?_⟩
    cases c with
    | over wk row =>
      refine ⟨_, rfl, _, _, _, _, rfl, rfl, hc, rfl, rfl, _, rfl, iteT ?_⟩
      refine ⟨_, rfl, _, rfl, _, _, _, _, rfl, rfl, hc, rfl, _, rfl, _, _, _, _, rfl, rfl, hc, rfl, ?_⟩
      exact ⟨wt, dw, k, ps, gs, dnf, ons, ys, G, wk, row, rfl, Z, q _ (Same.refl _)⟩
    | whole row =>
      refine ⟨_, rfl, _, _, _, _, rfl, rfl, hc, rfl, rfl, _, rfl, ?_⟩
      rw [dec_str, decide_eq_false (by decide +kernel)]
      refine iteF ?_
      refine ⟨_, rfl, _, _, _, _, rfl, rfl, hc, rfl, rfl, _, rfl, iteT ?_⟩
      refine ⟨_, rfl, _, rfl, _, rfl, _, rfl, _, _, _, _, rfl, rfl, hc, rfl, ?_⟩
      exact ⟨wt, dw, wl, k, ps, gs, ts, dnf, ons, ys, G, ks, size, row, rfl, Z, W, gok, h0, y1000, hb, q⟩
    | kept lo hi one other =>
      refine ⟨_, rfl, _, _, _, _, rfl, rfl, hc, rfl, rfl, _, rfl, ?_⟩
      rw [dec_str, decide_eq_false (by decide +kernel)]
      refine iteF ?_
      refine ⟨_, rfl, _, _, _, _, rfl, rfl, hc, rfl, rfl, _, rfl, ?_⟩
      rw [dec_str, decide_eq_false (by decide +kernel)]
      refine iteF ?_
      refine ⟨_, rfl, _, rfl, _, _, _, _, rfl, rfl, hc, rfl, _, rfl, _, _, _, _, rfl, rfl, hc, rfl, _, rfl, _, _, _, _, rfl, rfl, hc, rfl, _, rfl, _, _, _, _, rfl, rfl, hc, rfl, ?_⟩
      exact ⟨wt, dw, k, ps, gs, dnf, ons, ys, G, lo, hi, one, other, rfl, Z, q _ (Same.refl _)⟩
end
end SB

set_option Elab.async false
set_option linter.all false
set_option maxRecDepth 100000
set_option maxHeartbeats 4000000
namespace SB
open PySem L2
theorem eff_lt {n : Nat} {S : MS} {ks : List Wk} {r : Row} (h1 : ∀ x, r ≠ .go x) (h2 : ∀ x y, r ≠ .iff x y) (hn : S.row < n) : S.row < (eff n S ks r).1.row := by
  cases r <;> first | exact absurd rfl (h1 _) | exact absurd rfl (h2 _ _) | exact hn | (show S.row < S.row + 1; omega)
theorem doneB_sp {s : HS} (h : s.doneB = true) : s.next.S.spent = 0 := by
  unfold HS.doneB at h
  split at h
  · cases h
  · cases h
  · exact of_decide_eq_true h
theorem row_next {s : HS} (st : StrP s.prog) (O : HOk s) : s.S.row ≤ s.next.S.row ∧ (s.doneB = true → s.S.row < s.next.S.row) := by
  have e2 : s.next.S = s.ms.1 := rfl
  have r0 := O.m.row0
  cases hr : s.prog[s.S.row.toNat]? with
  | none =>
    have em : s.ms.1 = s.S := by
      unfold HS.ms mstep
      simp only [hr]
    refine ⟨by rw [e2, em]; exact Int.le_refl _, fun h => ?_⟩
    rw [doneB_none hr] at h
    cases h
  | some r =>
    obtain ⟨h1, h2⟩ := st r (List.mem_of_getElem? hr)
    have hlt : s.S.row < s.prog.length := by
      have := (List.getElem?_eq_some_iff.mp hr).1
      omega
    have key : ∀ (c : List Int) (ks : List Wk), s.S.row ≤ (tick s.prog.length { s.S with cells := c, spent := s.S.spent + 1 } ks r).1.row ∧ ((tick s.prog.length { s.S with cells := c, spent := s.S.spent + 1 } ks r).1.spent = 0 → s.S.row < (tick s.prog.length { s.S with cells := c, spent := s.S.spent + 1 } ks r).1.row) := by
      intro c ks
      unfold tick
      split
      · have := eff_lt (S := { s.S with cells := c, spent := s.S.spent + 1 }) (ks := ks) h1 h2 hlt
        exact ⟨Int.le_of_lt this, fun _ => this⟩
      · refine ⟨Int.le_refl _, fun h => absurd h ?_⟩
        show ¬ s.S.spent + 1 = 0
        have := O.m.sp0
        omega
    cases hw : r.word s.S.spent s.S.cells with
    | none =>
      have em : s.ms.1 = (tick s.prog.length { s.S with spent := s.S.spent + 1 } s.dm.1 r).1 := by
        unfold HS.ms mstep
        simp only [hr, hw]
      have k := key s.S.cells s.dm.1
      refine ⟨by rw [e2, em]; exact k.1, fun hd => ?_⟩
      have hs := doneB_sp hd
      rw [e2, em] at hs ⊢
      exact k.2 hs
    | some zz =>
      obtain ⟨z, p, cl⟩ := zz
      cases ht : s.dm.2.1 with
      | true =>
        have em : s.ms.1 = s.S := by
          unfold HS.ms mstep
          simp only [hr, hw, ht, if_true]
        have em2 : s.ent.2 = .waits := by
          show s.ms.2.2.2 = _
          unfold HS.ms mstep
          simp only [hr, hw, ht, if_true]
        refine ⟨by rw [e2, em]; exact Int.le_refl _, fun h => ?_⟩
        unfold HS.doneB at h
        rw [em2] at h
        cases h
      | false =>
        have em : s.ms.1 = (tick s.prog.length { s.S with cells := (useW z p cl s.S.cells s.dm.2.2.1).1, spent := s.S.spent + 1 } s.dm.1 r).1 := by
          unfold HS.ms mstep
          simp only [hr, hw, ht, Bool.false_eq_true, if_false]
        have k := key (useW z p cl s.S.cells s.dm.2.2.1).1 s.dm.1
        refine ⟨by rw [e2, em]; exact k.1, fun hd => ?_⟩
        have hs := doneB_sp hd
        rw [e2, em] at hs ⊢
        exact k.2 hs
theorem dn_row {s : HS} (st : StrP s.prog) (O : HOk s) {row : Int} : ∀ n, dnN s n row ≠ none → row < (s.after n).S.row
  | 0 => fun h => absurd rfl h
  | n + 1 => fun h => by
    have rn := row_next (s := s.after n) (by rw [after_prog]; exact st) (O.after n)
    have ih := dn_row (row := row) st O n
    have h : dnext (s.after n) (dnN s n) row ≠ none := h
    show row < (s.after n).next.S.row
    unfold dnext at h
    by_cases hd : (s.after n).doneB = true ∧ (s.after n).S.row = row
    · rw [← hd.2]
      exact rn.2 hd.1
    · rw [if_neg hd] at h
      have := ih h
      omega
theorem wpnext_pr {s : HS} {wp : WP} : (wpnext s wp).pr = wp.pr ∨ ∃ x, (wpnext s wp).pr = wp.pr ++ [(s.S.row, x)] := by
  unfold wpnext
  split
  · split
    · unfold WP.note
      split
      · exact .inr ⟨_, rfl⟩
      · exact .inl rfl
    · exact .inl rfl
  · exact .inl rfl
theorem wp_row {s : HS} (st : StrP s.prog) (O : HOk s) {row : Int} {n : Nat} (h : row < (s.after n).S.row) : ∀ d, ((wpN s (n + d)).pr.filter fun y => decide (y.1 = row)) = ((wpN s n).pr.filter fun y => decide (y.1 = row)) ∧ row < (s.after (n + d)).S.row
  | 0 => ⟨rfl, h⟩
  | d + 1 => by
    obtain ⟨i1, i2⟩ := wp_row st O h d
    have rn := row_next (s := s.after (n + d)) (by rw [after_prog]; exact st) (O.after (n + d))
    refine ⟨?_, by show row < (s.after (n + d)).next.S.row; omega⟩
    show (((wpnext (s.after (n + d)) (wpN s (n + d))).pr).filter _) = _
    rcases wpnext_pr (s := s.after (n + d)) (wp := wpN s (n + d)) with e | ⟨x, e⟩
    · rw [e, i1]
    · rw [e, List.filter_append, List.filter_cons_of_neg (by simp; omega), List.filter_nil, List.append_nil, i1]
theorem beatsA (s : HS) : ∀ n, (s.after n).beats = s.beats + (n : Nat)
  | 0 => by show s.beats = s.beats + ((0 : Nat) : Int); omega
  | n + 1 => by
    show (s.after n).beats + 1 = _
    rw [beatsA s n]
    omega
theorem wp_rg {s : HS} (b0 : s.beats = 0) : ∀ n : Nat, (∀ y ∈ (wpN s n).pr, y.2.1.1 < n ∧ y.2.2.1 < n) ∧ ∀ x, (wpN s n).fg = some x → x.1 < (n : Int)
  | 0 => ⟨fun y hy => (by cases hy), fun x hx => (by cases hx)⟩
  | n + 1 => by
    obtain ⟨i1, i2⟩ := wp_rg b0 n
    have hb : (s.after n).beats = (n : Int) := by rw [beatsA, b0]; omega
    have keep : (∀ y ∈ (wpN s n).pr, y.2.1.1 < ((n + 1 : Nat) : Int) ∧ y.2.2.1 < ((n + 1 : Nat) : Int)) ∧ ∀ x, (wpN s n).fg = some x → x.1 < ((n + 1 : Nat) : Int) :=
      ⟨fun y hy => by have := i1 y hy; omega, fun x hx => by have := i2 x hx; omega⟩
    show (∀ y ∈ (wpnext (s.after n) (wpN s n)).pr, _) ∧ ∀ x, (wpnext (s.after n) (wpN s n)).fg = some x → _
    unfold wpnext
    split
    · split
      · unfold WP.note
        split
        · refine ⟨fun y hy => ?_, keep.2⟩
          rcases List.mem_append.mp hy with z | z
          · exact keep.1 y z
          · rw [List.mem_singleton.mp z]
            refine ⟨?_, by show (s.after n).beats < _; omega⟩
            show ((wpN s n).fg.getD (0, 0)).1 < _
            cases hf : (wpN s n).fg with
            | none => show (0 : Int) < _; omega
            | some x => exact keep.2 x hf
        · refine ⟨keep.1, fun x hx => ?_⟩
          have e := Option.some.inj hx
          rw [← e]
          show (s.after n).beats < _
          omega
      · exact keep
    · exact keep
theorem laid_ext {s : HS} {g : LG} (n : Nat) : ∀ d, ∃ ex : List Ld, (s.lafter g (n + d)).laid = (s.lafter g n).laid ++ ex ∧ ∀ x ∈ ex, s.beats + (n : Int) ≤ x.2.2.1
  | 0 => ⟨[], by rw [List.append_nil]; rfl, fun x hx => (by cases hx)⟩
  | d + 1 => by
    obtain ⟨ex, e1, e2⟩ := laid_ext (s := s) (g := g) n d
    have nl := next_laid (s := s.after (n + d)) (g := s.lafter g (n + d))
    show ∃ ex, (LG.next (s.after (n + d)) (s.lafter g (n + d))).laid = _ ∧ _
    cases hp : (s.after (n + d)).putB with
    | none =>
      rw [hp] at nl
      simp only at nl
      exact ⟨ex, by rw [nl, e1], e2⟩
    | some j =>
      rw [hp] at nl
      obtain ⟨e, p, nl⟩ := nl
      refine ⟨ex ++ [(e, p, (s.after (n + d)).beats, j)], by rw [nl, e1, List.append_assoc], fun x hx => ?_⟩
      rcases List.mem_append.mp hx with z | z
      · exact e2 x z
      · have ex : x = (e, p, (s.after (n + d)).beats, j) := by simpa using z
        rw [ex]
        show _ ≤ (s.after (n + d)).beats
        rw [beatsA]
        omega
theorem wholeB_iff {ks : List Wk} {size : Nat} {G : List Go} {ys : List Pq} {row : Int} : wholeB ks size G ys row = true ↔ ∀ y ∈ (ys.filter fun y => decide (y.1 = row)), ∀ e ∈ G, tornB ks size y e = false := by
  unfold wholeB
  rw [List.isEmpty_iff]
  unfold tornsL
  rw [List.flatten_eq_nil_iff]
  constructor
  · intro h y hy e he
    have := h _ (List.mem_map.mpr ⟨y, hy, rfl⟩)
    unfold tornY at this
    have := List.map_eq_nil_iff.mp this
    have := List.filter_eq_nil_iff.mp this e he
    simpa using this
  · intro h l hl
    obtain ⟨y, hy, rfl⟩ := List.mem_map.mp hl
    unfold tornY
    rw [List.map_eq_nil_iff, List.filter_eq_nil_iff]
    intro e he
    rw [h y hy e he]
    decide
theorem tornY_rowD {ks : List Wk} {size : Nat} {G : List Go} {y : Pq} {row : Int} : (tornY ks size G y).filter (fun x => decide (x.1 = row)) = if y.1 = row then tornY ks size G y else [] := by
  by_cases h : y.1 = row
  · rw [if_pos h, List.filter_eq_self]
    intro x hx
    obtain ⟨e, _, rfl⟩ := List.mem_map.mp hx
    exact decide_eq_true h
  · rw [if_neg h, List.filter_eq_nil_iff]
    intro x hx
    obtain ⟨e, _, rfl⟩ := List.mem_map.mp hx
    simpa using h
theorem torns_filterD {ks : List Wk} {size : Nat} {G : List Go} {row : Int} : ∀ ys : List Pq, tornsL ks size G (ys.filter fun y => decide (y.1 = row)) = (tornsL ks size G ys).filter fun x => decide (x.1 = row)
  | [] => rfl
  | y :: r => by
    have ih := torns_filterD (ks := ks) (size := size) (G := G) (row := row) r
    have e1 : tornsL ks size G (y :: r) = tornY ks size G y ++ tornsL ks size G r := rfl
    rw [e1, List.filter_append, tornY_rowD, ← ih]
    by_cases h : y.1 = row
    · rw [if_pos h, List.filter_cons_of_pos (by simpa using h)]
      rfl
    · rw [if_neg h, List.filter_cons_of_neg (by simpa using h), List.nil_append]
theorem cnt_same {gn gm : LG} {ex : List Ld} {n : Int} {i : Nat} (hl : gm.laid = gn.laid ++ ex) (hx : ∀ x ∈ ex, n ≤ x.2.2.1) (got : Int × Int) (hg : got.1 ≤ n) : ((laidBy gm i).filter fun x => decide (x.2.1 = got.2) && decide (x.2.2.1 < got.1)).length = ((laidBy gn i).filter fun x => decide (x.2.1 = got.2) && decide (x.2.2.1 < got.1)).length := by
  unfold laidBy
  rw [hl, List.filter_append, List.filter_append, List.length_append]
  have : ((ex.filter fun x => decide (x.1 = (i : Int))).filter fun x => decide (x.2.1 = got.2) && decide (x.2.2.1 < got.1)) = [] := by
    rw [List.filter_eq_nil_iff]
    intro x hx'
    have := hx x (List.mem_filter.mp hx').1
    have : ¬ x.2.2.1 < got.1 := by omega
    simp [this]
  rw [this]
  rfl
theorem tornB_laid {ks ks' : List Wk} {size : Nat} {y : Pq} {e : Go} {g : LG} {h : GH} (c : Co ks' g h) {i : Nat} (he : h.G[i]? = some e) {n : Int} (y1 : y.2.1.1 ≤ n) (y2 : y.2.2.1 ≤ n) (ht : tornB ks size y e = true) : ∃ x ∈ g.laid, x.1 = (i : Int) ∧ x.2.2.1 < n := by
  unfold tornB at ht
  rw [← cnt_laid c he, ← cnt_laid c he] at ht
  by_cases hex : ∃ x ∈ g.laid, x.1 = (i : Int) ∧ x.2.2.1 < n
  · exact hex
  · exfalso
    have z : ∀ got : Int × Int, got.1 ≤ n → ((laidBy g i).filter fun x => decide (x.2.1 = got.2) && decide (x.2.2.1 < got.1)) = [] := fun got hg => by
      rw [List.filter_eq_nil_iff]
      intro x hx
      obtain ⟨h1, h2⟩ := List.mem_filter.mp hx
      have h2 : x.1 = (i : Int) := of_decide_eq_true h2
      have : ¬ x.2.2.1 < got.1 := fun q => hex ⟨x, h1, h2, by omega⟩
      simp [this]
    rw [z _ y1, z _ y2] at ht
    simp at ht
theorem tornB_of {ks : List Wk} {size : Nat} {y : Pq} {e e' : Go} (hn : e.n = e'.n) (h1 : cntOf e.pu y.2.1 = cntOf e'.pu y.2.1) (h2 : cntOf e.pu y.2.2 = cntOf e'.pu y.2.2) : tornB ks size y e = tornB ks size y e' := by
  unfold tornB
  rw [hn, h1, h2]
theorem torn_keep {ks ks1 ks2 : List Wk} {size : Nat} {y : Pq} {gn gm : LG} {hn hm : GH} (cn : Co ks1 gn hn) (cm : Co ks2 gm hm) {ex : List Ld} {n : Int} (hl : gm.laid = gn.laid ++ ex) (hx : ∀ x ∈ ex, n ≤ x.2.2.1) (y1 : y.2.1.1 ≤ n) (y2 : y.2.2.1 ≤ n) : (∃ e ∈ hn.G, tornB ks size y e = true) ↔ ∃ e ∈ hm.G, tornB ks size y e = true := by
  have both : ∀ (i : Nat) (x : Ld), x ∈ gn.laid → x.1 = (i : Int) → ∃ e e', hn.G[i]? = some e ∧ hm.G[i]? = some e' ∧ e.n = e'.n := by
    intro i x hx1 hxi
    obtain ⟨i1, e1, a1, a2, a3⟩ := cn.wk x hx1
    obtain ⟨i2, e2, b1, b2, b3⟩ := cm.wk x (by rw [hl]; exact List.mem_append_left _ hx1)
    have k1 : i1 = i := by omega
    have k2 : i2 = i := by omega
    rw [k1] at a2
    rw [k2] at b2
    exact ⟨e1, e2, a2, b2, by omega⟩
  constructor
  · rintro ⟨e, he, ht⟩
    obtain ⟨i, hi⟩ := List.getElem?_of_mem he
    obtain ⟨x, hx1, hx2, _⟩ := tornB_laid cn hi y1 y2 ht
    obtain ⟨e1, e2, a1, a2, a3⟩ := both i x hx1 hx2
    rw [hi] at a1
    cases a1
    refine ⟨e2, List.mem_of_getElem? a2, ?_⟩
    rw [← ht]
    exact (tornB_of a3 (by rw [← cnt_laid cn hi, ← cnt_laid cm a2, cnt_same hl hx _ y1]) (by rw [← cnt_laid cn hi, ← cnt_laid cm a2, cnt_same hl hx _ y2])).symm
  · rintro ⟨e, he, ht⟩
    obtain ⟨i, hi⟩ := List.getElem?_of_mem he
    obtain ⟨x, hx1, hx2, hx3⟩ := tornB_laid cm hi y1 y2 ht
    have hxn : x ∈ gn.laid := by
      rw [hl] at hx1
      rcases List.mem_append.mp hx1 with z | z
      · exact z
      · have := hx x z
        omega
    obtain ⟨e1, e2, a1, a2, a3⟩ := both i x hxn hx2
    rw [hi] at a2
    cases a2
    refine ⟨e1, List.mem_of_getElem? a1, ?_⟩
    rw [← ht]
    exact tornB_of a3 (by rw [← cnt_laid cn a1, ← cnt_laid cm hi, cnt_same hl hx _ y1]) (by rw [← cnt_laid cn a1, ← cnt_laid cm hi, cnt_same hl hx _ y2])
def wholeN (prog : List Row) (as : List (Int × Int)) (ks : List Wk) (ws : List Int) (row : Int) (n : Nat) : Bool := wholeB ks ws.length ((HS.at0 prog as ks ws).gafter (GH.none ks.length) n).G (wpN (HS.at0 prog as ks ws) n).pr row
theorem whole_keep {prog : List Row} {as : List (Int × Int)} {ks : List Wk} {ws : List Int} (kok : ∀ k ∈ ks, WOk ks.length k) (O : HOk (HS.at0 prog as ks ws)) (st : StrP prog) {row : Int} {n : Nat} (h : row < ((HS.at0 prog as ks ws).after n).S.row) (d : Nat) : wholeN prog as ks ws row (n + d) = wholeN prog as ks ws row n := by
  have st' : StrP (HS.at0 prog as ks ws).prog := st
  have b0 : (HS.at0 prog as ks ws).beats = 0 := rfl
  obtain ⟨ep, _⟩ := wp_row st' O h d
  have Co0 := Co.at0 (prog := prog) (as := as) (ws := ws) kok
  have cn := Co0.after n
  have cm := Co0.after (n + d)
  obtain ⟨ex, e1, e2⟩ := laid_ext (s := HS.at0 prog as ks ws) (g := LG.none ks.length prog.length) n d
  have rg := (wp_rg b0 n).1
  unfold wholeN
  rw [Bool.eq_iff_iff, wholeB_iff, wholeB_iff, ep]
  have key : ∀ y ∈ (wpN (HS.at0 prog as ks ws) n).pr.filter (fun y => decide (y.1 = row)), (∃ e ∈ ((HS.at0 prog as ks ws).gafter (GH.none ks.length) n).G, tornB ks ws.length y e = true) ↔ ∃ e ∈ ((HS.at0 prog as ks ws).gafter (GH.none ks.length) (n + d)).G, tornB ks ws.length y e = true := fun y hy => by
    obtain ⟨r1, r2⟩ := rg y (List.mem_filter.mp hy).1
    exact torn_keep cn cm e1 (n := (n : Int)) (fun x hx => by have := e2 x hx; rw [b0] at this; omega) (by omega) (by omega)
  constructor
  · intro hh y hy e he
    cases ht : tornB ks ws.length y e with
    | false => rfl
    | true =>
      obtain ⟨e', he', ht'⟩ := (key y hy).mp ⟨e, he, ht⟩
      rw [hh y hy e' he'] at ht'
      cases ht'
  · intro hh y hy e he
    cases ht : tornB ks ws.length y e with
    | false => rfl
    | true =>
      obtain ⟨e', he', ht'⟩ := (key y hy).mpr ⟨e, he, ht⟩
      rw [hh y hy e' he'] at ht'
      cases ht'
theorem whole_till {prog : List Row} {as : List (Int × Int)} {ks : List Wk} {ws : List Int} (kok : ∀ k ∈ ks, WOk ks.length k) (O : HOk (HS.at0 prog as ks ws)) (st : StrP prog) {row : Int} {n m : Nat} (hnm : n ≤ m) (h : row < ((HS.at0 prog as ks ws).after n).S.row ∨ n = m) : wholeN prog as ks ws row n = wholeN prog as ks ws row m := by
  rcases h with h | h
  · have := whole_keep kok O st h (m - n)
    rw [show n + (m - n) = m by omega] at this
    exact this.symm
  · rw [h]
end SB

set_option Elab.async false
set_option linter.all false
set_option maxRecDepth 100000
set_option maxHeartbeats 2000000
namespace SB
open PySem L2
theorem cut_dropT {xs : List V} {n : Nat} : cutV xs (some (n : Int)) none = xs.drop n := by
  unfold cutV
  rw [HT.sIx_nat]
  show (xs.drop (min n xs.length)).take (xs.length - min n xs.length) = _
  by_cases h : n ≤ xs.length
  · rw [Nat.min_eq_left h, List.take_of_length_le (by rw [List.length_drop]; exact Nat.le_refl _)]
  · rw [Nat.min_eq_right (by omega), List.drop_of_length_le (Nat.le_refl _), List.drop_of_length_le (by omega), List.take_nil]
theorem cut_takeT {xs : List V} {n : Nat} : cutV xs none (some (n : Int)) = xs.take n := by
  unfold cutV
  rw [HT.sIx_nat]
  show (xs.drop 0).take (min n xs.length - 0) = _
  rw [List.drop_zero, Nat.sub_zero]
  by_cases h : n ≤ xs.length
  · rw [Nat.min_eq_left h]
  · rw [Nat.min_eq_right (by omega), List.take_of_length_le (Nat.le_refl _), List.take_of_length_le (by omega)]
theorem sIx_neg {n d k : Nat} (h : 0 < k) : HT.sIx n d (some (-(k : Int))) = n - k := by
  show (if -(k : Int) < 0 then (-(k : Int) + (n : Int)).toNat else min (-(k : Int)).toNat n) = n - k
  rw [if_pos (by omega)]
  omega
theorem cut_negT {xs : List V} {k : Nat} (h : 0 < k) : cutV xs (some (-(k : Int))) none = xs.drop (xs.length - k) := by
  unfold cutV
  rw [sIx_neg h]
  show (xs.drop (xs.length - k)).take (xs.length - (xs.length - k)) = _
  rw [List.take_of_length_le (by rw [List.length_drop]; exact Nat.le_refl _)]
section
variable {K : PySem.W.Frag} {H H' : Hp}
theorem sl_hiT {a : Addr} {xs : List V} {n : Nat} {Q : VK} (h : SqT K H a xs) (q : ∀ H' p, SqT K H' p (xs.take n) → Same H H' → Q (.ref p) H') : rSlA K (.ref a) none (some (n : Int)) H Q := by
  refine ⟨a, xs, rfl, h, fun hw => ?_, fun _ p np => ?_⟩
  · refine q H a ?_ (Same.refl _)
    have := hw.2
    rw [HT.sIx_nat] at this
    rw [List.take_of_length_le (by omega)]
    exact h
  · refine q _ p ?_ (Same.new (Same.refl _) np)
    rw [cut_takeT]
    exact SqT.of upd_same
theorem sl_loT {a : Addr} {xs : List V} {n : Nat} {Q : VK} (h : SqT K H a xs) (q : ∀ H' p, SqT K H' p (xs.drop n) → Same H H' → Q (.ref p) H') : rSlA K (.ref a) (some (n : Int)) none H Q := by
  refine ⟨a, xs, rfl, h, fun hw => ?_, fun _ p np => ?_⟩
  · refine q H a ?_ (Same.refl _)
    have := hw.1
    rw [HT.sIx_nat] at this
    by_cases h0 : n = 0
    · rw [h0]; exact h
    · have : xs = [] := List.length_eq_zero_iff.mp (by omega)
      rw [this] at h ⊢
      rw [List.drop_nil]
      exact h
  · refine q _ p ?_ (Same.new (Same.refl _) np)
    rw [cut_dropT]
    exact SqT.of upd_same
theorem sl_negT {a : Addr} {xs : List V} {k : Nat} {Q : VK} (k0 : 0 < k) (h : SqT K H a xs) (q : ∀ H' p, SqT K H' p (xs.drop (xs.length - k)) → Same H H' → Q (.ref p) H') : rSlA K (.ref a) (some (-(k : Int))) none H Q := by
  refine ⟨a, xs, rfl, h, fun hw => ?_, fun _ p np => ?_⟩
  · refine q H a ?_ (Same.refl _)
    have := hw.1
    rw [sIx_neg k0] at this
    rw [this, List.drop_zero]
    exact h
  · refine q _ p ?_ (Same.new (Same.refl _) np)
    rw [cut_negT k0]
    exact SqT.of upd_same
theorem cat_anyT {a b : Addr} {xs ys : List V} {Q : VK} (ha : SqT K H a xs) (hb : SqT K H b ys) (hl : xs.length + ys.length ≤ sizeLine) (q : ∀ H' p, SqT K H' p (xs ++ ys) → Same H H' → Q (.ref p) H') : rCatA K (.ref a) (.ref b) H Q := by
  refine ⟨a, b, xs, ys, rfl, rfl, ha, hb, hl, fun h => ?_, fun _ h => ?_, fun _ _ p np => ?_⟩
  · refine q H b ?_ (Same.refl _)
    rw [h]
    exact hb
  · refine q H a ?_ (Same.refl _)
    rw [h, List.append_nil]
    exact ha
  · exact q _ p (SqT.of upd_same) (Same.new (Same.refl _) np)
theorem rep_flat {α : Type} (x : α) : ∀ n : Nat, (List.replicate n [x]).flatten = List.replicate n x
  | 0 => rfl
  | n + 1 => by
    rw [List.replicate_succ, List.flatten_cons, rep_flat x n, List.replicate_succ]
    rfl
theorem rep_oneT {a t : Addr} {k : Int} {Q : VK} (ha : SqT K H a [.ref t]) (k0 : 0 ≤ k) (k1 : k ≤ 1000) (q : ∀ H' p, SqT K H' p ((List.replicate k.toNat t).map V.ref) → Same H H' → Q (.ref p) H') : rRepA K (.ref a) (.int k) H Q := by
  refine ⟨a, k, _, rfl, rfl, ha, (fun z => by cases z), k0, k1, by show 1 ≤ 1000; decide, fun h => ?_, fun _ p np => ?_⟩
  · refine q H a ?_ (Same.refl _)
    rw [h]
    exact ha
  · refine q _ p ?_ (Same.new (Same.refl _) np)
    rw [rep_flat, List.map_replicate]
    exact SqT.of upd_same
structure RowsAt (K : PySem.W.Frag) (H : Hp) (rs : List Addr) (prog : List Row) : Prop where
  len : rs.length = prog.length
  at_ : ∀ (j : Nat) (t : Addr) (r : Row), rs[j]? = some t → prog[j]? = some r → SqT K H t r.vs
theorem ProgAt.rows {pa : Addr} {rs : List Addr} {prog : List Row} (h : ProgAt K H pa rs prog) : RowsAt K H rs prog := ⟨h.len, h.at_⟩
theorem RowsAt.prog {pa : Addr} {rs : List Addr} {prog : List Row} (h : RowsAt K H rs prog) (t : SqT K H pa (rs.map V.ref)) : ProgAt K H pa rs prog := ⟨t, h.len, h.at_⟩
theorem RowsAt.same {rs : List Addr} {prog : List Row} (h : RowsAt K H rs prog) (s : Same H H') : RowsAt K H' rs prog := ⟨h.len, fun j t r e1 e2 => Same.tup s (h.at_ j t r e1 e2)⟩
theorem RowsAt.app {rs rs2 : List Addr} {prog prog2 : List Row} (h : RowsAt K H rs prog) (h2 : RowsAt K H rs2 prog2) : RowsAt K H (rs ++ rs2) (prog ++ prog2) := by
  refine ⟨by rw [List.length_append, List.length_append, h.len, h2.len], fun j t r e1 e2 => ?_⟩
  by_cases hj : j < rs.length
  · rw [List.getElem?_append_left hj] at e1
    rw [List.getElem?_append_left (by rw [← h.len]; exact hj)] at e2
    exact h.at_ j t r e1 e2
  · rw [List.getElem?_append_right (by omega)] at e1
    rw [List.getElem?_append_right (by rw [← h.len]; omega), ← h.len] at e2
    exact h2.at_ _ t r e1 e2
theorem RowsAt.drop {rs : List Addr} {prog : List Row} (h : RowsAt K H rs prog) (n : Nat) : RowsAt K H (rs.drop n) (prog.drop n) := by
  refine ⟨by rw [List.length_drop, List.length_drop, h.len], fun j t r e1 e2 => ?_⟩
  rw [List.getElem?_drop] at e1 e2
  exact h.at_ _ t r e1 e2
theorem RowsAt.take {rs : List Addr} {prog : List Row} (h : RowsAt K H rs prog) (n : Nat) : RowsAt K H (rs.take n) (prog.take n) := by
  refine ⟨by rw [List.length_take, List.length_take, h.len], fun j t r e1 e2 => ?_⟩
  have hj : j < n := by
    have := (List.getElem?_eq_some_iff.mp e1).1
    rw [List.length_take] at this
    omega
  rw [List.getElem?_take_of_lt hj] at e1 e2
  exact h.at_ j t r e1 e2
theorem RowsAt.rep {t : Addr} {r : Row} (h : SqT K H t r.vs) (n : Nat) : RowsAt K H (List.replicate n t) (List.replicate n r) := by
  refine ⟨by rw [List.length_replicate, List.length_replicate], fun j t' r' e1 e2 => ?_⟩
  have h1 := List.mem_of_getElem? e1
  have h2 := List.mem_of_getElem? e2
  rw [(List.mem_replicate.mp h1).2, (List.mem_replicate.mp h2).2]
  exact h
theorem RowsAt.one {t : Addr} {r : Row} (h : SqT K H t r.vs) : RowsAt K H [t] [r] := RowsAt.rep h 1
end
end SB

set_option Elab.async false
set_option linter.all false
set_option maxRecDepth 100000
set_option maxHeartbeats 2000000
namespace SB
open PySem L2
theorem after_klR {s : HS} : ∀ n, (s.after n).ks.length = s.ks.length
  | 0 => rfl
  | n + 1 => by
    show ((s.after n).ms.2.1).length = _
    unfold HS.ms
    rw [mstep_len.1]
    unfold HS.dm
    rw [devMove_len.1, askAll_len]
    exact after_klR n
theorem gok_ofR {prog : List Row} {as : List (Int × Int)} {ks : List Wk} {ws : List Int} (kok : ∀ k ∈ ks, WOk ks.length k) (n : Nat) : ∀ e ∈ ((HS.at0 prog as ks ws).gafter (GH.none ks.length) n).G, e.n < ks.length ∧ e.pu.length ≤ 1000 := by
  have cc := (Co.at0 (prog := prog) (as := as) (ws := ws) kok).after n
  intro e he
  obtain ⟨i, hi⟩ := List.getElem?_of_mem he
  obtain ⟨k, k1, k2⟩ := cc.nc i e hi
  have h1 := (List.getElem?_eq_some_iff.mp k1).1
  have mb := cc.ok.mb k (List.mem_of_getElem? k1)
  have kl : ((HS.at0 prog as ks ws).after n).ks.length = ks.length := by
    rw [after_klR]
    show (ks.map Wk.fresh).length = _
    rw [List.length_map]
  refine ⟨by omega, ?_⟩
  rcases k2 with k2 | k2
  · obtain ⟨_, e0, q1, _, _, q4, q5⟩ := cc.ok.on e.n k i k1 k2
    rw [hi] at q1
    cases q1
    omega
  · omega
def allWhole (prog : List Row) (ks : List Wk) (ws : List Int) (wk row lo : Int) : Nat → Bool
  | 0 => true
  | n + 1 => wholeN prog [(lo, wk)] ks ws row 300 && allWhole prog ks ws wk row (lo + 1) n
theorem allWhole_succ {prog : List Row} {ks : List Wk} {ws : List Int} {wk row lo : Int} {n : Nat} : allWhole prog ks ws wk row lo (n + 1) = (wholeN prog [(lo, wk)] ks ws row 300 && allWhole prog ks ws wk row (lo + 1) n) := by rw [allWhole]
theorem allWhole_all {prog : List Row} {ks : List Wk} {ws : List Int} {wk row : Int} (f : Int → Bool) (hf : ∀ b, f b = wholeN prog [(b, wk)] ks ws row 300) : ∀ {n : Nat} {lo : Int}, allWhole prog ks ws wk row lo n = true ↔ ∀ j : Nat, j < n → f (lo + (j : Int)) = true
  | 0, lo => ⟨fun _ j hj => absurd hj (Nat.not_lt_zero _), fun _ => by rw [allWhole]⟩
  | n + 1, lo => by
    rw [allWhole_succ, Bool.and_eq_true, ← hf, allWhole_all f hf]
    constructor
    · rintro ⟨h1, h2⟩ j hj
      cases j with
      | zero =>
        have e : lo + ((0 : Nat) : Int) = lo := by omega
        rw [e]
        exact h1
      | succ j =>
        have e : lo + ((j + 1 : Nat) : Int) = lo + 1 + (j : Int) := by omega
        rw [e]
        exact h2 j (by omega)
    · intro h
      refine ⟨?_, fun j hj => ?_⟩
      · have := h 0 (by omega)
        have e : lo + ((0 : Nat) : Int) = lo := by omega
        rw [e] at this
        exact this
      · have := h (j + 1) (by omega)
        have e : lo + ((j + 1 : Nat) : Int) = lo + 1 + (j : Int) := by omega
        rw [e] at this
        exact this
theorem allWhole_yes {prog : List Row} {ks : List Wk} {ws : List Int} {wk row : Int} {n : Nat} {lo : Int} (h : ∀ j : Nat, j < n → wholeN prog [(lo + (j : Int), wk)] ks ws row 300 = true) : allWhole prog ks ws wk row lo n = true :=
  (allWhole_all (fun b => wholeN prog [(b, wk)] ks ws row 300) (fun _ => rfl)).mpr h
theorem allWhole_no {prog : List Row} {ks : List Wk} {ws : List Int} {wk row : Int} {n i : Nat} {lo : Int} (hi : i < n) (hf : wholeN prog [(lo + (i : Int), wk)] ks ws row 300 = false) : allWhole prog ks ws wk row lo n = false := by
  cases h : allWhole prog ks ws wk row lo n with
  | false => rfl
  | true =>
    have := (allWhole_all (fun b => wholeN prog [(b, wk)] ks ws row 300) (fun _ => rfl)).mp h i hi
    have this : wholeN prog [(lo + (i : Int), wk)] ks ws row 300 = true := this
    rw [hf] at this
    cases this
theorem allWhole_snoc {prog : List Row} {ks : List Wk} {ws : List Int} {wk row : Int} {n : Nat} {lo : Int} : allWhole prog ks ws wk row lo (n + 1) = (allWhole prog ks ws wk row lo n && wholeN prog [(lo + (n : Int), wk)] ks ws row 300) := by
  generalize hw : wholeN prog [(lo + (n : Int), wk)] ks ws row 300 = b
  cases b with
  | false => rw [allWhole_no (i := n) (by omega) hw, Bool.and_false]
  | true =>
    rw [Bool.and_true, Bool.eq_iff_iff, allWhole_all (fun b => wholeN prog [(b, wk)] ks ws row 300) (fun _ => rfl), allWhole_all (fun b => wholeN prog [(b, wk)] ks ws row 300) (fun _ => rfl)]
    constructor
    · exact fun h j hj => h j (by omega)
    · intro h j hj
      by_cases e : j = n
      · rw [e]
        exact hw
      · exact h j (by omega)
theorem viaR {te : TE} {σ : L2.St} {H : Hp} {Q : VK} (J : V → Hp → Prop) (h : ∀ Q' : VK, (∀ v H', J v H' → Q' v H') → te σ H Q') (q : ∀ v H', J v H' → Q v H') : te σ H Q := h Q q
def restP (ahead behind : List Row) (m : Nat) : List Row := (ahead ++ (if m = 0 then [] else [.rest (m : Int)])) ++ behind
def restR (ahead : List Row) (m : Nat) : Nat := ahead.length + (if m = 0 then 0 else 1)
def fewT (ahead behind : List Row) (ks : List Wk) (ws : List Int) (wk lo : Int) (n : Nat) (m : Int) : Bool := allWhole (restP ahead behind m.toNat) ks ws wk (restR ahead m.toNat : Nat) lo n
theorem fewT_at {ahead behind : List Row} {ks : List Wk} {ws : List Int} {wk lo : Int} {n : Nat} (j : Nat) : fewT ahead behind ks ws wk lo n (0 + (j : Int)) = allWhole (restP ahead behind j) ks ws wk (restR ahead j : Nat) lo n := by
  unfold fewT
  rw [show (0 + (j : Int)).toNat = j by omega]
section
variable {P : Program} {w : World} {K : PySem.W.Frag} {mg : Str → Option Value} {base : Heap} {H H' : Hp}
def WaA.waR (b : WaA) : Wa := ⟨b.f.h, b.dn, b.ob, b.pr, b.fg, b.gl⟩
def onTIR (s : HS) (t : Int) : List Int := onI (s.after ((t - s.beats).toNat + 1)).ks
theorem seen_ofR {b : WaA} {s s0 : HS} {g : GH} {n : Nat} {dnf : Int → Option Int} {wp : WP} (W : WatchAt K H b s g n dnf wp) (o : ObAt H b dnf (onT s0)) : ∃ ps gs, Seen K H b.wt b.dw b.waR ps gs dnf (onTIR s0) wp.pr g.G := by
  obtain ⟨kv1, d1, _, d2⟩ := W.dn
  obtain ⟨kv2, o1, o2⟩ := o
  obtain ⟨ps, PP⟩ := W.pr
  refine ⟨ps, b.f.da.gas.map (·.g), W.wo, ⟨kv1, d1, d2⟩, ⟨kv2, o1, fun r t e => ?_⟩, PP, ?_⟩
  · have := o2 r
    rw [e] at this
    obtain ⟨D, a1, _, a3⟩ := this
    exact ⟨D, a1, by rw [a3]; unfold onT onTIR; rw [onV_I]⟩
  · refine ⟨?_, ?_, fun i p e h1 h2 => ?_⟩
    · have := W.gl
      rw [List.map_map]
      exact this
    · rw [List.length_map]
      exact W.fl.dv.glen
    · rw [List.getElem?_map] at h1
      cases hg : b.f.da.gas[i]? with
      | none => rw [hg] at h1; cases h1
      | some x =>
        rw [hg] at h1
        cases h1
        obtain ⟨o1, o2⟩ := W.fl.dv.go i x e hg h2
        exact ⟨_, _, _, o1, o2⟩
structure GoodR (K : PySem.W.Frag) (H : Hp) (pa wl ml : Addr) (rs ts : List Addr) (prog : List Row) (ks : List Wk) (ws : List Int) : Prop where
  pr : ProgAt K H pa rs prog
  pok : ∀ r ∈ prog, r.okW prog.length
  st : StrP prog
  W : WorksAt K H wl ts ks
  k6 : ks.length ≤ 6
  kok : ∀ k ∈ ks, WOk ks.length k
  M : SqL K H ml (ws.map V.int)
  w4 : 4 ≤ ws.length
theorem GoodR.same {pa wl ml : Addr} {rs ts : List Addr} {prog : List Row} {ks : List Wk} {ws : List Int} (h : GoodR K H pa wl ml rs ts prog ks ws) (s : Same H H') : GoodR K H' pa wl ml rs ts prog ks ws :=
  ⟨h.pr.same s, h.pok, h.st, h.W.same s, h.k6, h.kok, s.seq h.M, h.w4⟩
def sp_is_always_whole (K : PySem.W.Frag) : Sp := fun vs H Q _ => ∃ (pa wl ml wi : Addr) (rs ts : List Addr) (prog : List Row) (ks : List Wk) (ws : List Int) (wk lo hi row : Int), vs = [.ref pa, .ref wl, .ref ml, .ref wi, .int row] ∧ GoodR K H pa wl ml rs ts prog ks ws ∧ SqT K H wi [.int wk, .int lo, .int hi] ∧ Win wk lo hi ks.length ∧ 0 ≤ row ∧
  ∀ H', Same H H' → Q (.bl (allWhole prog ks ws wk row lo (hi + 1 - lo).toNat)) H'
theorem ok_is_always_whole (T : T w K mg) : FnR P w K mg base CX0 9 (He.ga K "is_always_whole") (sp_is_always_whole K) := by
  have F_Watch_init : FnR P w K mg base CX0 7 _ _ := ok_Watch_init T
  have F_Watch_run_till : FnR P w K mg base CX0 8 _ _ := ok_Watch_run_till T
  have F_is_whole : FnR P w K mg base CX0 4 _ _ := ok_is_whole T
  obtain ⟨t1, g_MOST_BEATS⟩ := T.i_MOST_BEATS
  obtain ⟨fd, F⟩ := T.f_is_always_whole
  refine F.r sc_is_always_whole (fun _ _ _ _ _ _ us hl => match us, hl with | [_, _, _, _, _], _ => rfl) (fun vs H Q E h => ?_) (fun cdv A outer s0 H vs Q E hr h => ?_)
  · obtain ⟨_, _, _, _, _, _, _, _, _, _, _, _, _, rfl, _⟩ := h
    rfl
  · obtain ⟨pa, wl, ml, wi, rs, ts, prog, ks, ws, wk, lo, hi, row, rfl, G, hwi, Wn, row0, q⟩ := h
    refine ⟨_, (pss_cons (ps_asg (pv 3) (pg_tup rfl (pgs_cons (pg_name (i := 5) sc_is_always_whole.nd rfl (Or.inl rfl)) (pgs_cons (pg_name (i := 6) sc_is_always_whole.nd rfl (Or.inl rfl)) (pgs_cons (pg_name (i := 7) sc_is_always_whole.nd rfl (Or.inl rfl)) pgs_nil)))))
  (pss_cons (ps_for PassesOwn.never rfl (pi_range2 rfl T.u_range (pa_cons (pv 6) (pa_cons (pe_op op_add (pv 7) pe_int) pa_nil))) (pg_name (i := 8) sc_is_always_whole.nd rfl (Or.inl rfl))
  (pss_cons (ps_set (i := 9) sc_is_always_whole.nd rfl (Or.inl rfl) (pe_mkR T.mk_Watch F_Watch_init (hr.mono (by decide)) rfl T.g_Watch (pa_cons (pv 0) (pa_cons (pv 1) (pa_cons (pv 2) (pa_cons (pe_lst (pa_cons (pe_tup (pa_cons (pv 8) (pa_cons (pv 5) pa_nil))) pa_nil)) pa_nil))))))
  (pss_cons (ps_expr (pe_mthR (pv 9) T.cl_Watch T.m_Watch_run_till F_Watch_run_till (hr.mono (by decide)) (pa_cons (pv 4) (pa_cons (pe_glob (v := .int 300) rfl g_MOST_BEATS ⟨_, rfl⟩) pa_nil))))
  (pss_one (ps_if (pt_not (pt_val (pe_callR F_is_whole (hr.mono (by decide)) rfl T.g_is_whole T.k_is_whole (pa_cons (pv 9) (pa_cons (pv 1) (pa_cons (pe_callB call_len_seq rfl T.u_len PySem.boot_len (pa_cons (pv 2) pa_nil)) (pa_cons (pv 4) pa_nil)))))))
  (pss_one (ps_ret pe_bl))
  pss_nil)))))
  (pss_one (ps_ret pe_bl)))), ?_⟩
    refine ⟨_, rfl, wi, _, rfl, hwi, rfl, _, _, rfl, _, _, rfl, _, _, rfl, rfl, ?_⟩
    obtain ⟨l0, l1⟩ := Wn.lo0
    obtain ⟨h0, h1⟩ := Wn.hi0
    have hle := Wn.le
    refine ⟨_, rfl, _, rfl, _, _, rfl, rfl, lo, hi + 1, rfl, ⟨by omega, by omega, by omega, by omega⟩, ?_⟩
    refine for_range (lo := lo) (n := (hi + 1 - lo).toNat) (fun i σ H2 => ∃ v8 v9, σ = [some (.ref pa), some (.ref wl), some (.ref ml), some (.ref wi), some (.int row), some (.int wk), some (.int lo), some (.int hi), v8, v9] ∧ (∀ j : Nat, j < i → wholeN prog [(lo + (j : Int), wk)] ks ws row 300 = true) ∧ Same H H2)
      ⟨_, _, rfl, fun j hj => by omega, Same.refl _⟩ ?_ ?_
    · rintro i σ H2 hi' ⟨v8, v9, rfl, hyes, s2⟩
      refine ⟨_, rfl, _, rfl, _, rfl, _, rfl, _, rfl, by show 2 ≤ sizeLine; decide, fun t nt => ?_⟩
      have s3 : Same H2 (upd H2 t (.tup [.int (lo + (i : Int)), .int wk])) := Same.new (Same.refl _) nt
      have h3 : upd H2 t (.tup [.int (lo + (i : Int)), .int wk]) t = some (.tup [.int (lo + (i : Int)), .int wk]) := upd_same
      generalize upd H2 t (.tup [.int (lo + (i : Int)), .int wk]) = H3 at s3 h3
      refine ⟨by show 1 ≤ sizeLine; decide, fun al nal => ?_⟩
      have s4 : Same H3 (upd H3 al (.lst [.ref t])) := Same.new (Same.refl _) nal
      have h4 : upd H3 al (.lst [.ref t]) al = some (.lst [.ref t]) := upd_same
      have A4 : TupsAt (upd H3 al (.lst [.ref t])) al [t] ([(lo + (i : Int), wk)].map puV) := asks_one h4 (s4 _ _ h3)
      generalize upd H3 al (.lst [.ref t]) = H4 at s4 h4 A4
      have s04 := (s2.trans s3).trans s4
      have G4 := G.same s04
      have brg : rg 0 200 (lo + (i : Int)) := ⟨by omega, by show lo + (i : Int) ≤ 200; omega⟩
      have ao := ao_one brg Wn.w0 Wn.w1
      have O := at0_okW (ws := ws) G.pok G.k6 G.kok G.w4 ao
      intro wt dw nwt ndw new
      have s5 : Same H4 (upd (upd H4 dw (.own wt)) wt (.ins (cWatch K) dw [])) := fun b o e => by
        rw [upd_ne (ne_of_none e nwt), upd_ne (ne_of_none e ndw)]
        exact e
      have G5 := G4.same s5
      have A5 := A4.keep s5
      refine ⟨wt, dw, pa, wl, ml, al, rs, ts, [t], prog, ks, ws, [(lo + (i : Int), wk)], rfl, upd_same, G5.pr, G5.W, G.k6, fun k hk => ?_, G5.M, A5.asksT, fun H6 b hb W6 nf k6 => ⟨rfl, ?_⟩⟩ -- Watch(..)
      · obtain ⟨m1, m2⟩ := (G.kok k hk).m
        omega
      subst hb
      have s6 : Same H4 H6 := fun x o e => k6 x o (s5 x o e) (by simpa using ne_of_none e nwt)
      have nf0 : ∀ x ∈ b.foot, H4 x = none := fun x hx => by
        by_cases e : x = b.wt
        · rw [e]; exact nwt
        · exact Same.free s5 (nf x hx e)
      refine ⟨_, rfl, _, _, _, rfl, W6.wo, wa_no_run_till _, ?_⟩
      refine ⟨_, rfl, b, _, _, row, 300, rfl, W6, O, rfl, by decide, fun H7 b' j e1 e2 j1 j2 W7 st7 ob7 => ?_⟩ -- watch.run_till(row, 300)
      have s7 : Same H4 H7 := fun x o e => st7.kp x o (s6 x o e) (fun zz => by rw [nf0 x zz] at e; cases e)
      obtain ⟨ps, gs, Z⟩ := seen_ofR W7 ob7
      have gok := gok_ofR (prog := prog) (as := [(lo + (i : Int), wk)]) (ws := ws) G.kok j
      have gl := g_len (g := GH.none ks.length) O rfl j
      have prl := W7.prl
      have s07 := s04.trans s7
      have G7 := G.same s07
      have Z' := Z
      rw [e1] at Z'
      refine ⟨_, rfl, _, rfl, _, rfl, _, _, rfl, .inl G7.M, ?_⟩
      rw [List.length_map]
      refine ⟨_, rfl, b.wt, b'.dw, wl, b'.waR, ps, gs, ts, _, _, _, _, ks, ws.length, row, rfl, Z', G7.W, gok, by have := G.w4; omega, by omega, ?_, fun H8 s8 => ?_⟩ -- is_whole(..)
      · have h1 : (wpN (HS.at0 prog [(lo + (i : Int), wk)] ks ws) j).pr.length ≤ 300 := by omega
        have h2 : ((HS.at0 prog [(lo + (i : Int), wk)] ks ws).gafter (GH.none ks.length) j).G.length ≤ 3000 := by omega
        exact Nat.le_trans (Nat.mul_le_mul h1 h2) (by decide)
      have s08 := s07.trans s8
      have ew : wholeN prog [(lo + (i : Int), wk)] ks ws row j = wholeN prog [(lo + (i : Int), wk)] ks ws row 300 := by
        refine whole_till G.kok O G.st j1 ?_
        rcases j2 with z | z
        · exact .inl (dn_row (s := HS.at0 prog [(lo + (i : Int), wk)] ks ws) G.st O j z)
        · exact .inr z
      have ew' : wholeB ks ws.length ((HS.at0 prog [(lo + (i : Int), wk)] ks ws).gafter (GH.none ks.length) j).G (wpN (HS.at0 prog [(lo + (i : Int), wk)] ks ws) j).pr row = wholeN prog [(lo + (i : Int), wk)] ks ws row 300 := ew
      rw [ew']
      refine ⟨_, rfl, ?_⟩
      cases hb : wholeN prog [(lo + (i : Int), wk)] ks ws row 300 with
      | true =>
        refine iteF ⟨_, _, rfl, fun j hj => ?_, s08⟩
        by_cases e : j = i
        · rw [e]
          exact hb
        · exact hyes j (by omega)
      | false =>
        refine iteT ?_
        have := q _ s08
        rw [allWhole_no hi' hb] at this
        exact this
    · rintro σ H2 ⟨v8, v9, rfl, hyes, s2⟩
      have := q _ s2
      rw [allWhole_yes hyes] at this
      exact this
def sp_fewest (K : PySem.W.Frag) : Sp := fun vs H Q _ => ∃ (aa ba wl ml wi : Addr) (rs1 rs2 ts : List Addr) (ahead behind : List Row) (ks : List Wk) (ws : List Int) (wk lo hi : Int), vs = [.ref aa, .ref ba, .ref wl, .ref ml, .ref wi] ∧ ProgAt K H aa rs1 ahead ∧ ProgAt K H ba rs2 behind ∧ ahead.length ≤ 100 ∧ behind.length ≤ 100 ∧ (∀ r ∈ ahead ++ behind, ∀ n, 0 < n → r.okW n) ∧ StrP (ahead ++ behind) ∧ WorksAt K H wl ts ks ∧ ks.length ≤ 6 ∧ (∀ k ∈ ks, WOk ks.length k) ∧ SqL K H ml (ws.map V.int) ∧ 4 ≤ ws.length ∧ SqT K H wi [.int wk, .int lo, .int hi] ∧ Win wk lo hi ks.length ∧
  ∀ H', Same H H' → Q (oV (firstT (fewT ahead behind ks ws wk lo (hi + 1 - lo).toNat) 0 41)) H'
theorem restP_mem {ahead behind : List Row} {m : Nat} {r : Row} (h : r ∈ restP ahead behind m) : r ∈ ahead ++ behind ∨ (m ≠ 0 ∧ r = .rest (m : Int)) := by
  unfold restP at h
  rcases List.mem_append.mp h with h | h
  · rcases List.mem_append.mp h with h | h
    · exact .inl (List.mem_append_left _ h)
    · by_cases hm : m = 0
      · rw [if_pos hm] at h
        cases h
      · rw [if_neg hm] at h
        exact .inr ⟨hm, by simpa using h⟩
  · exact .inl (List.mem_append_right _ h)
theorem ok_fewest (T : T w K mg) : FnR P w K mg base CX0 10 (He.ga K "fewest") (sp_fewest K) := by
  have F_is_always_whole : FnR P w K mg base CX0 9 _ _ := ok_is_always_whole T
  obtain ⟨t1, g_MOST_RESTS⟩ := T.i_MOST_RESTS
  obtain ⟨fd, F⟩ := T.f_fewest
  refine F.r sc_fewest (fun _ _ _ _ _ _ us hl => match us, hl with | [_, _, _, _, _], _ => rfl) (fun vs H Q E h => ?_) (fun cdv A outer s0 H vs Q E hr h => ?_)
  · obtain ⟨_, _, _, _, _, _, _, _, _, _, _, _, _, _, _, rfl, _⟩ := h
    rfl
  · obtain ⟨aa, ba, wl, ml, wi, rs1, rs2, ts, ahead, behind, ks, ws, wk, lo, hi, rfl, Pa, Pb, a100, b100, rok, st, W, k6, kok, M, w4, hwi, Wn, q⟩ := h
    refine ⟨_, (pss_cons (ps_for PassesOwn.never rfl (pi_range1 rfl T.u_range (pa_cons (pe_op op_add (pe_glob (v := .int 40) rfl g_MOST_RESTS ⟨_, rfl⟩) pe_int) pa_nil)) (pg_name (i := 5) sc_fewest.nd rfl (Or.inl rfl))
  (pss_cons (ps_set (i := 6) sc_fewest.nd rfl (Or.inl rfl) (pe_ifExp (pt_truth (pv 5) (fun _ => rfl)) (pe_op op_catA (pv 0) (pe_tup (pa_cons (pe_tup (pa_cons pe_str (pa_cons (pv 5) pa_nil))) pa_nil))) (pv 0)))
  (pss_one (ps_if (pt_val (pe_callR F_is_always_whole (hr.mono (by decide)) rfl T.g_is_always_whole T.k_is_always_whole (pa_cons (pe_op op_catA (pv 6) (pv 1)) (pa_cons (pv 2) (pa_cons (pv 3) (pa_cons (pv 4) (pa_cons (pe_callB call_len_seq rfl T.u_len PySem.boot_len (pa_cons (pv 6) pa_nil)) pa_nil)))))))
  (pss_one (ps_ret (pv 5)))
  pss_nil))))
  (pss_one (ps_ret pe_non))), ?_⟩
    refine ⟨_, _, rfl, rfl, 41, rfl, by decide, by decide, ?_⟩
    refine for_it walk_range (fun i σ H2 => ∃ v5 v6, σ = [some (.ref aa), some (.ref ba), some (.ref wl), some (.ref ml), some (.ref wi), v5, v6] ∧ (∀ j : Nat, j < i → fewT ahead behind ks ws wk lo (hi + 1 - lo).toNat (0 + (j : Int)) = false) ∧ Same H H2)
      ⟨_, _, rfl, fun j hj => by omega, Same.refl _⟩ (fun _ _ _ _ _ => trivial) ?_ ?_
    · rintro i x σ H2 H2' hi' ⟨v5, v6, rfl, hno, s2⟩ ⟨rfl, rfl⟩
      have hi' : i < 41 := hi'
      have e0 : (0 : Int) + (i : Nat) = (i : Int) := by omega
      show gName 5 (V.int (0 + (i : Int))) _ _ _
      rw [e0]
      have Pa2 := Pa.same s2
      have Pb2 := Pb.same s2
      have ez : (((i : Int) != 0) : Bool) = !decide (i = 0) := by
        by_cases h : i = 0
        · subst h
          rfl
        · have : (i : Int) ≠ 0 := by omega
          simp [h, this]
      have wi2 := Same.tup s2 hwi
      dsimp only [gName]
      refine seq_s (asg_s ?_)
      refine viaR (fun v H' => ∃ ra rs3, v = .ref ra ∧ Same H2' H' ∧ ProgAt K H' ra rs3 (ahead ++ (if i = 0 then [] else [Row.rest (i : Int)]))) (fun Q' hQ => ?_) ?_
      · refine ⟨_, rfl, _, rfl, ?_⟩
        rw [ez]
        by_cases h : i = 0
        · rw [decide_eq_true h]
          refine iteF ⟨_, rfl, hQ _ _ ⟨aa, rs1, rfl, Same.refl _, ?_⟩⟩
          rw [if_pos h, List.append_nil]
          exact Pa2
        · rw [decide_eq_false h]
          refine iteT ⟨_, rfl, _, rfl, by show 2 ≤ sizeLine; decide, fun t nt => ?_⟩
          have s3 : Same H2' (upd H2' t (.tup [.str "rest", .int (i : Int)])) := Same.new (Same.refl _) nt
          have h3 : upd H2' t (.tup [.str "rest", .int (i : Int)]) t = some (.tup (Row.rest (i : Int)).vs) := upd_same
          generalize upd H2' t (.tup [.str "rest", .int (i : Int)]) = H3 at s3 h3
          refine ⟨by show 1 ≤ sizeLine; decide, fun t2 nt2 => ?_⟩
          have s4 : Same H3 (upd H3 t2 (.tup [.ref t])) := Same.new (Same.refl _) nt2
          have h4 : upd H3 t2 (.tup [.ref t]) t2 = some (.tup [.ref t]) := upd_same
          generalize upd H3 t2 (.tup [.ref t]) = H4 at s4 h4
          have s24 := s3.trans s4
          refine cat_anyT (Pa2.same s24).tup (SqT.of h4) ?_ (fun H5 ra hra s5 => hQ _ _ ⟨ra, rs1 ++ [t], rfl, s24.trans s5, ?_⟩)
          · rw [List.length_map, Pa.len]
            exact Nat.le_trans (show ahead.length + 1 ≤ 1000 by omega) (by decide)
          · rw [if_neg h]
            refine (((Pa2.same (s24.trans s5)).rows).app (RowsAt.one (SqT.of (s5 _ _ (s4 _ _ h3))))).prog ?_
            rw [List.map_append]
            exact hra
      rintro v H4 ⟨ra, rs3, rfl, s24, P4⟩
      have Pb4 := Pb2.same s24
      refine ⟨_, rfl, _, rfl, ?_⟩
      have l3 : (ahead ++ (if i = 0 then [] else [Row.rest (i : Int)])).length = restR ahead i := by
        unfold restR
        rw [List.length_append]
        split <;> rfl
      have l4 : restR ahead i ≤ 101 := by
        unfold restR
        split <;> omega
      refine cat_anyT P4.tup Pb4.tup ?_ (fun H5 pa hpa s45 => ?_)
      · rw [List.length_map, List.length_map, P4.len, Pb.len, l3]
        exact Nat.le_trans (show restR ahead i + behind.length ≤ 1000 by omega) (by decide)
      have P5 := P4.same s45
      have s05 := (s2.trans s24).trans s45
      have PP : ProgAt K H5 pa (rs3 ++ rs2) (restP ahead behind i) := (P5.rows.app (Pb4.same s45).rows).prog (by rw [List.map_append]; exact hpa)
      refine ⟨_, rfl, _, rfl, _, rfl, _, rfl, _, _, rfl, .inr P5.tup, ?_⟩
      rw [List.length_map, P5.len, l3]
      refine ⟨pa, wl, ml, wi, rs3 ++ rs2, ts, restP ahead behind i, ks, ws, wk, lo, hi, _, rfl, ⟨PP, fun r hr => ?_, fun r hr => ?_, W.same s05, k6, kok, s05.seq M, w4⟩, Same.tup s05 hwi, Wn, by omega, fun H6 s6 => ?_⟩ -- is_always_whole(..)
      · have lp : 0 < (restP ahead behind i).length := List.length_pos_of_mem hr
        rcases restP_mem hr with z | ⟨z1, z2⟩
        · exact rok r z _ lp
        · rw [z2]
          exact ⟨by omega, by omega⟩
      · rcases restP_mem hr with z | ⟨z1, z2⟩
        · exact st r z
        · rw [z2]
          exact ⟨(fun x z => by cases z), (fun x y z => by cases z)⟩
      have s06 := s05.trans s6
      refine ⟨_, rfl, ?_⟩
      cases hb : allWhole (restP ahead behind i) ks ws wk (restR ahead i : Nat) lo (hi + 1 - lo).toNat with
      | true =>
        refine iteT ⟨_, rfl, ?_⟩
        have hq := firstT_hit (T := fewT ahead behind ks ws wk lo (hi + 1 - lo).toNat) (lo := 0) (n := 41) (i := i) hno hi' (by rw [fewT_at]; exact hb)
        have := q _ s06
        rw [hq] at this
        rw [e0] at this
        exact this
      | false =>
        refine iteF ⟨_, _, rfl, fun j hj => ?_, s06⟩
        by_cases e : j = i
        · rw [e, fewT_at]
          exact hb
        · exact hno j (by omega)
    · rintro σ H2 ⟨v5, v6, rfl, hno, s2⟩
      have hq := firstT_none (T := fewT ahead behind ks ws wk lo (hi + 1 - lo).toNat) (lo := 0) (n := 41) hno
      have := q _ s2
      rw [hq] at this
      exact this
def sp_rests (K : PySem.W.Frag) : Sp := fun vs H Q _ => ∃ (pa wl ml : Addr) (rs ts : List Addr) (prog : List Row) (ks : List Wk) (ws : List Int) (wk lo hi : Int) (row : Nat) (x y : Int), vs = [.ref pa, .ref wl, .ref ml, .int wk, .int lo, .int hi, .int (row : Int)] ∧ GoodW K H pa wl ml rs ts prog ks ws ∧ Win wk lo hi ks.length ∧ StrP prog ∧ prog[row]? = some (.pair x y) ∧
  ∀ H', Same H H' → Q (oV (firstT (fewT (prog.take row) (prog.drop row) ks ws wk lo (hi + 1 - lo).toNat) 0 41)) H'
theorem okW_any {r : Row} {m : Nat} (h1 : ∀ x, r ≠ .go x) (h2 : ∀ x y, r ≠ .iff x y) (h : r.ok m) : ∀ n, 0 < n → r.okW n := fun n _ => by
  have := h.w
  cases r <;> first | exact this | exact absurd rfl (h1 _) | exact absurd rfl (h2 _ _)
theorem ok_rests (T : T w K mg) : FnR P w K mg base CX0 11 (He.ga K "rests") (sp_rests K) := by
  have F_check_windowed : FnR P w K mg base CX0 5 _ _ := ok_check_windowed T
  have F_check_pair : FnR P w K mg base CX0 4 _ _ := ok_check_pair T
  have F_check_straight : FnR P w K mg base CX0 1 _ _ := ok_check_straight T
  have F_fewest : FnR P w K mg base CX0 10 _ _ := ok_fewest T
  obtain ⟨fd, F⟩ := T.f_rests
  refine F.r sc_rests (fun _ _ _ _ _ _ us hl => match us, hl with | [_, _, _, _, _, _, _], _ => rfl) (fun vs H Q E h => ?_) (fun cdv A outer s0 H vs Q E hr h => ?_)
  · obtain ⟨_, _, _, _, _, _, _, _, _, _, _, _, _, _, rfl, _⟩ := h
    rfl
  · obtain ⟨pa, wl, ml, rs, ts, prog, ks, ws, wk, lo, hi, row, x, y, rfl, G, Wn, st, hrow, q⟩ := h
    refine ⟨_, (pss_cons (ps_expr (pe_callR F_check_windowed (hr.mono (by decide)) rfl T.g_check_windowed T.k_check_windowed (pa_cons (pv 0) (pa_cons (pv 1) (pa_cons (pv 2) (pa_cons (pv 3) (pa_cons (pv 4) (pa_cons (pv 5) pa_nil))))))))
  (pss_cons (ps_expr (pe_callR F_check_pair (hr.mono (by decide)) rfl T.g_check_pair T.k_check_pair (pa_cons (pv 6) (pa_cons (pv 0) pa_nil))))
  (pss_cons (ps_expr (pe_callR F_check_straight (hr.mono (by decide)) rfl T.g_check_straight T.k_check_straight (pa_cons (pv 0) pa_nil)))
  (pss_one (ps_ret (pe_callR F_fewest (hr.mono (by decide)) rfl T.g_fewest T.k_fewest (pa_cons (pe_slice sl_tupA (pv 0) po_none (po_some (pv 6))) (pa_cons (pe_slice sl_tupA (pv 0) (po_some (pv 6)) po_none) (pa_cons (pv 1) (pa_cons (pv 2) (pa_cons (pe_tup (pa_cons (pv 3) (pa_cons (pv 4) (pa_cons (pv 5) pa_nil)))) pa_nil))))))))))), ?_⟩
    refine ⟨_, rfl, _, rfl, _, rfl, _, rfl, _, rfl, _, rfl, pa, wl, ml, rs, ts, prog, ks, ws, wk, lo, hi, rfl, G, Wn, fun H1 s1 => ?_⟩ -- check_windowed(..)
    have G1 := G.same s1
    refine ⟨_, rfl, _, rfl, pa, rs, prog, _, x, y, rfl, G1.pr, by omega, by rw [Int.toNat_natCast]; exact hrow, ?_⟩ -- check_pair(..)
    refine ⟨_, rfl, pa, rs, prog, rfl, G1.pr, st, fun H2 s2 => ?_⟩ -- check_straight(..)
    have G2 := G1.same s2
    refine ⟨_, rfl, _, rfl, _, rfl, ?_⟩
    refine sl_hiT (n := row) G2.pr.tup (fun H3 aa haa s3 => ?_)
    have G3 := G2.same s3
    refine ⟨_, rfl, _, rfl, _, rfl, ?_⟩
    dsimp only [tNoPart]
    refine sl_loT (n := row) G3.pr.tup (fun H4 ba hba s4 => ?_)
    refine ⟨_, rfl, _, rfl, _, rfl, _, rfl, _, rfl, by show 3 ≤ sizeLine; decide, fun wi nwi => ?_⟩
    have s5 : Same H4 (upd H4 wi (.tup [.int wk, .int lo, .int hi])) := Same.new (Same.refl _) nwi
    have h5 : upd H4 wi (.tup [.int wk, .int lo, .int hi]) wi = some (.tup [.int wk, .int lo, .int hi]) := upd_same
    generalize upd H4 wi (.tup [.int wk, .int lo, .int hi]) = H5 at s5 h5
    have s45 := s4.trans s5
    have G5 := G3.same s45
    have p40 := G.p40
    rw [← List.map_take] at haa
    rw [← List.map_drop] at hba
    have et : prog.take row ++ prog.drop row = prog := List.take_append_drop _ _
    refine ⟨aa, ba, wl, ml, wi, rs.take row, rs.drop row, ts, prog.take row, prog.drop row, ks, ws, wk, lo, hi, rfl, (G5.pr.rows.take row).prog (Same.tup s45 haa), (G5.pr.rows.drop row).prog (Same.tup s5 hba), by rw [List.length_take]; omega, by rw [List.length_drop]; omega, ?_, ?_, G5.W, G.k6, G.kok, G5.M, G.w4, SqT.of h5, Wn, fun H6 s6 => q _ (((s1.trans s2).trans (s3.trans s45)).trans s6)⟩ -- fewest(..)
    · rw [et]
      exact fun r hr => okW_any (st r hr).1 (st r hr).2 (G.pok r hr)
    · rw [et]
      exact st
end
end SB

set_option Elab.async false
set_option linter.all false
set_option maxRecDepth 100000
set_option maxHeartbeats 2000000
namespace SB
open PySem L2
def onTI (s : HS) (t : Int) : List Int := onI (s.after ((t - s.beats).toNat + 1)).ks
theorem onT_I (s : HS) (t : Int) : onT s t = (onTI s t).map V.int := onV_I _
theorem after_kl {s : HS} : ∀ n, (s.after n).ks.length = s.ks.length
  | 0 => rfl
  | n + 1 => by
    show ((s.after n).ms.2.1).length = _
    unfold HS.ms
    rw [mstep_len.1]
    unfold HS.dm
    rw [devMove_len.1, askAll_len]
    exact after_kl n
theorem gok_of {prog : List Row} {as : List (Int × Int)} {ks : List Wk} {ws : List Int} (kok : ∀ k ∈ ks, WOk ks.length k) (n : Nat) : ∀ e ∈ ((HS.at0 prog as ks ws).gafter (GH.none ks.length) n).G, e.n < ks.length ∧ e.pu.length ≤ 1000 := by
  have cc := (Co.at0 (prog := prog) (as := as) (ws := ws) kok).after n
  intro e he
  obtain ⟨i, hi⟩ := List.getElem?_of_mem he
  obtain ⟨k, k1, k2⟩ := cc.nc i e hi
  have h1 := (List.getElem?_eq_some_iff.mp k1).1
  have mb := cc.ok.mb k (List.mem_of_getElem? k1)
  have kl : ((HS.at0 prog as ks ws).after n).ks.length = ks.length := by
    rw [after_kl]
    show (ks.map Wk.fresh).length = _
    rw [List.length_map]
  refine ⟨by omega, ?_⟩
  rcases k2 with k2 | k2
  · obtain ⟨_, e0, q1, _, _, q4, q5⟩ := cc.ok.on e.n k i k1 k2
    rw [hi] at q1
    cases q1
    omega
  · omega
section
variable {P : Program} {w : World} {K : PySem.W.Frag} {mg : Str → Option Value} {base : Heap} {H H' : Hp}
def WaA.wa (b : WaA) : Wa := ⟨b.f.h, b.dn, b.ob, b.pr, b.fg, b.gl⟩
theorem seen_of {b : WaA} {s s0 : HS} {g : GH} {n : Nat} {dnf : Int → Option Int} {wp : WP} (W : WatchAt K H b s g n dnf wp) (o : ObAt H b dnf (onT s0)) : ∃ ps gs, Seen K H b.wt b.dw b.wa ps gs dnf (onTI s0) wp.pr g.G := by
  obtain ⟨kv1, d1, _, d2⟩ := W.dn
  obtain ⟨kv2, o1, o2⟩ := o
  obtain ⟨ps, PP⟩ := W.pr
  refine ⟨ps, b.f.da.gas.map (·.g), W.wo, ⟨kv1, d1, d2⟩, ⟨kv2, o1, fun r t e => ?_⟩, PP, ?_⟩
  · have := o2 r
    rw [e] at this
    obtain ⟨D, a1, _, a3⟩ := this
    exact ⟨D, a1, by rw [a3, onT_I]⟩
  · refine ⟨?_, ?_, fun i p e h1 h2 => ?_⟩
    · have := W.gl
      rw [List.map_map]
      exact this
    · rw [List.length_map]
      exact W.fl.dv.glen
    · rw [List.getElem?_map] at h1
      cases hg : b.f.da.gas[i]? with
      | none => rw [hg] at h1; cases h1
      | some x =>
        rw [hg] at h1
        cases h1
        obtain ⟨o1, o2⟩ := W.fl.dv.go i x e hg h2
        exact ⟨_, _, _, o1, o2⟩
def holdsAt (prog : List Row) (ks : List Wk) (ws : List Int) (wk : Int) (c : Clm) (b : Int) : Bool :=
  holdsB (dnN (HS.at0 prog [(b, wk)] ks ws) 300) (onTI (HS.at0 prog [(b, wk)] ks ws)) (wpN (HS.at0 prog [(b, wk)] ks ws) 300).pr ((HS.at0 prog [(b, wk)] ks ws).gafter (GH.none ks.length) 300).G ks ws.length c
def sp_leans (K : PySem.W.Frag) : Sp := fun vs H Q _ => ∃ (pa wl ml ca : Addr) (rs ts : List Addr) (prog : List Row) (ks : List Wk) (ws : List Int) (wk lo hi : Int) (c : Clm), vs = [.ref pa, .ref wl, .ref ml, .int wk, .int lo, .int hi, .ref ca] ∧ GoodW K H pa wl ml rs ts prog ks ws ∧ Win wk lo hi ks.length ∧ SqT K H ca c.vs ∧ c.ok prog ks.length ∧
  ∀ H', Same H H' → Q (oV (firstT (fun b => !holdsAt prog ks ws wk c b) lo (hi + 1 - lo).toNat)) H'
theorem ok_leans (T : T w K mg) : FnR P w K mg base CX0 9 (He.ga K "leans") (sp_leans K) := by
  have F_check_windowed : FnR P w K mg base CX0 5 _ _ := ok_check_windowed T
  have F_check_claim : FnR P w K mg base CX0 5 _ _ := ok_check_claim T
  have F_Watch_init : FnR P w K mg base CX0 7 _ _ := ok_Watch_init T
  have F_Watch_run : FnR P w K mg base CX0 8 _ _ := ok_Watch_run T
  have F_holds : FnR P w K mg base CX0 5 _ _ := ok_holds T
  obtain ⟨t1, g_MOST_BEATS⟩ := T.i_MOST_BEATS
  obtain ⟨fd, F⟩ := T.f_leans
  refine F.r sc_leans (fun _ _ _ _ _ _ us hl => match us, hl with | [_, _, _, _, _, _, _], _ => rfl) (fun vs H Q E h => ?_) (fun cdv A outer s0 H vs Q E hr h => ?_)
  · obtain ⟨_, _, _, _, _, _, _, _, _, _, _, _, _, rfl, _⟩ := h
    rfl
  · obtain ⟨pa, wl, ml, ca, rs, ts, prog, ks, ws, wk, lo, hi, c, rfl, G, Wn, hc, cok, q⟩ := h
    refine ⟨_, (pss_cons (ps_expr (pe_callR F_check_windowed (hr.mono (by decide)) rfl T.g_check_windowed T.k_check_windowed (pa_cons (pv 0) (pa_cons (pv 1) (pa_cons (pv 2) (pa_cons (pv 3) (pa_cons (pv 4) (pa_cons (pv 5) pa_nil))))))))
  (pss_cons (ps_expr (pe_callR F_check_claim (hr.mono (by decide)) rfl T.g_check_claim T.k_check_claim (pa_cons (pv 6) (pa_cons (pv 0) (pa_cons (pv 1) pa_nil)))))
  (pss_cons (ps_for PassesOwn.never rfl (pi_range2 rfl T.u_range (pa_cons (pv 4) (pa_cons (pe_op op_add (pv 5) pe_int) pa_nil))) (pg_name (i := 7) sc_leans.nd rfl (Or.inl rfl))
  (pss_cons (ps_set (i := 8) sc_leans.nd rfl (Or.inl rfl) (pe_mkR T.mk_Watch F_Watch_init (hr.mono (by decide)) rfl T.g_Watch (pa_cons (pv 0) (pa_cons (pv 1) (pa_cons (pv 2) (pa_cons (pe_lst (pa_cons (pe_tup (pa_cons (pv 7) (pa_cons (pv 3) pa_nil))) pa_nil)) pa_nil))))))
  (pss_cons (ps_expr (pe_mthR (pv 8) T.cl_Watch T.m_Watch_run F_Watch_run (hr.mono (by decide)) (pa_cons (pe_glob (v := .int 300) rfl g_MOST_BEATS ⟨_, rfl⟩) pa_nil)))
  (pss_one (ps_if (pt_not (pt_val (pe_callR F_holds (hr.mono (by decide)) rfl T.g_holds T.k_holds (pa_cons (pv 6) (pa_cons (pv 8) (pa_cons (pv 1) (pa_cons (pe_callB call_len_seq rfl T.u_len PySem.boot_len (pa_cons (pv 2) pa_nil)) pa_nil)))))))
  (pss_one (ps_ret (pv 7)))
  pss_nil)))))
  (pss_one (ps_ret pe_non))))), ?_⟩
    refine ⟨_, rfl, _, rfl, _, rfl, _, rfl, _, rfl, _, rfl, pa, wl, ml, rs, ts, prog, ks, ws, wk, lo, hi, rfl, G, Wn, fun H1 s1 => ?_⟩ -- check_windowed(..)
    have G1 := G.same s1
    refine ⟨_, rfl, _, rfl, _, rfl, ca, pa, wl, rs, prog, _, c, rfl, Same.tup s1 hc, G1.pr, G1.W.lst, by rw [List.length_map, G1.W.len]; exact cok, ?_⟩ -- check_claim(..)
    obtain ⟨l0, l1⟩ := Wn.lo0
    obtain ⟨h0, h1⟩ := Wn.hi0
    have hle := Wn.le
    refine ⟨_, rfl, _, rfl, _, _, rfl, rfl, lo, hi + 1, rfl, ⟨by omega, by omega, by omega, by omega⟩, ?_⟩
    refine for_range (lo := lo) (n := (hi + 1 - lo).toNat) (fun i σ H2 => ∃ v7 v8, σ = [some (.ref pa), some (.ref wl), some (.ref ml), some (.int wk), some (.int lo), some (.int hi), some (.ref ca), v7, v8] ∧ (∀ j : Nat, j < i → (fun b => !holdsAt prog ks ws wk c b) (lo + (j : Int)) = false) ∧ Same H H2)
      ⟨_, _, rfl, fun j hj => by omega, s1⟩ ?_ ?_
    · rintro i σ H2 hi' ⟨v7, v8, rfl, hno, s2⟩
      refine ⟨_, rfl, _, rfl, _, rfl, _, rfl, _, rfl, by show 2 ≤ sizeLine; decide, fun t nt => ?_⟩
      have s3 : Same H2 (upd H2 t (.tup [.int (lo + (i : Int)), .int wk])) := Same.new (Same.refl _) nt
      have h3 : upd H2 t (.tup [.int (lo + (i : Int)), .int wk]) t = some (.tup [.int (lo + (i : Int)), .int wk]) := upd_same
      generalize upd H2 t (.tup [.int (lo + (i : Int)), .int wk]) = H3 at s3 h3
      refine ⟨by show 1 ≤ sizeLine; decide, fun al nal => ?_⟩
      have s4 : Same H3 (upd H3 al (.lst [.ref t])) := Same.new (Same.refl _) nal
      have h4 : upd H3 al (.lst [.ref t]) al = some (.lst [.ref t]) := upd_same
      have A4 : TupsAt (upd H3 al (.lst [.ref t])) al [t] ([(lo + (i : Int), wk)].map puV) := asks_one h4 (s4 _ _ h3)
      generalize upd H3 al (.lst [.ref t]) = H4 at s4 h4 A4
      have s04 := (s2.trans s3).trans s4
      have G4 := G.same s04
      have brg : rg 0 200 (lo + (i : Int)) := ⟨by omega, by show lo + (i : Int) ≤ 200; omega⟩
      have ao := ao_one brg Wn.w0 Wn.w1
      have O := at0_ok (ws := ws) G.pok G.k6 G.kok G.w4 ao
      intro wt dw nwt ndw new
      have s5 : Same H4 (upd (upd H4 dw (.own wt)) wt (.ins (cWatch K) dw [])) := fun b o e => by
        rw [upd_ne (ne_of_none e nwt), upd_ne (ne_of_none e ndw)]
        exact e
      have G5 := G4.same s5
      have A5 := A4.keep s5
      refine ⟨wt, dw, pa, wl, ml, al, rs, ts, [t], prog, ks, ws, [(lo + (i : Int), wk)], rfl, upd_same, G5.pr, G5.W, G.k6, fun k hk => ?_, G5.M, A5.asksT, fun H6 b hb W6 nf k6 => ⟨rfl, ?_⟩⟩ -- Watch(..)
      · obtain ⟨m1, m2⟩ := (G.kok k hk).m
        omega
      subst hb
      have s6 : Same H4 H6 := fun x o e => k6 x o (s5 x o e) (by simpa using ne_of_none e nwt)
      have nf0 : ∀ x ∈ b.foot, H4 x = none := fun x hx => by
        by_cases e : x = b.wt
        · rw [e]; exact nwt
        · exact Same.free s5 (nf x hx e)
      refine ⟨_, rfl, _, _, _, rfl, W6.wo, wa_no_run _, ?_⟩
      refine ⟨b, _, _, 300, rfl, W6, O, by decide, by decide, fun H7 b' e1 e2 W7 st7 ob7 => ?_⟩ -- watch.run(300)
      have s7 : Same H4 H7 := fun x o e => st7.kp x o (s6 x o e) (fun zz => by rw [nf0 x zz] at e; cases e)
      obtain ⟨ps, gs, Z⟩ := seen_of W7 ob7
      have gok := gok_of (prog := prog) (as := [(lo + (i : Int), wk)]) (ws := ws) G.kok 300
      have gl := g_len (g := GH.none ks.length) O rfl 300
      have prl := W7.prl
      have s07 := s04.trans s7
      have G7 := G.same s07
      have ci : (300 : Int).toNat = 300 := rfl
      rw [ci] at Z prl
      have Z' := Z
      rw [e1] at Z'
      refine ⟨_, rfl, _, rfl, _, rfl, _, rfl, _, _, rfl, .inl G7.M, ?_⟩
      rw [List.length_map]
      refine ⟨ca, b.wt, b'.dw, wl, c, b'.wa, ps, gs, ts, _, _, _, _, ks, ws.length, rfl, Same.tup s07 hc, Z', G7.W, gok, by have := G.w4; omega, by omega, ?_, fun H8 s8 => ?_⟩ -- holds(..)
      · have h1 : (wpN (HS.at0 prog [(lo + (i : Int), wk)] ks ws) 300).pr.length ≤ 300 := by omega
        have h2 : ((HS.at0 prog [(lo + (i : Int), wk)] ks ws).gafter (GH.none ks.length) 300).G.length ≤ 3000 := by omega
        exact Nat.le_trans (Nat.mul_le_mul h1 h2) (by decide)
      have s08 := s07.trans s8
      refine ⟨_, rfl, ?_⟩
      cases hb : holdsAt prog ks ws wk c (lo + (i : Int)) with
      | true =>
        have hb' := hb
        unfold holdsAt at hb'
        rw [hb']
        refine iteF ⟨_, _, rfl, fun j hj => ?_, s08⟩
        by_cases e : j = i
        · rw [e]
          show (!holdsAt prog ks ws wk c (lo + (i : Int))) = false
          rw [hb]
          rfl
        · exact hno j (by omega)
      | false =>
        have hb' := hb
        unfold holdsAt at hb'
        rw [hb']
        refine iteT ⟨_, rfl, ?_⟩
        have := q _ s08
        rw [firstT_hit hno hi' (by show (!holdsAt prog ks ws wk c (lo + (i : Int))) = true; rw [hb]; rfl)] at this
        exact this
    · rintro σ H2 ⟨v7, v8, rfl, hno, s2⟩
      have := q _ s2
      rw [firstT_none hno] at this
      exact this
end
end SB

set_option Elab.async false
set_option linter.all false
set_option maxRecDepth 100000
set_option maxHeartbeats 4000000
namespace SB
open PySem L2
def restRows (n : Nat) : List Row := List.replicate (n / 9) (.rest 9) ++ (if n % 9 = 0 then [] else [.rest ((n % 9 : Nat) : Int)])
def restM (n : Nat) : Nat := n / 9 + (if n % 9 = 0 then 0 else 1)
theorem restRows_len (n : Nat) : (restRows n).length = restM n := by
  unfold restRows restM
  rw [List.length_append, List.length_replicate]
  split <;> rfl
def restsP (ahead behind : List Row) (n : Nat) : List Row := (ahead ++ restRows n) ++ behind
section
variable {ahead behind : List Row} {n : Nat}
theorem restP_len (hn : 0 < n) : (restP ahead behind n).length = ahead.length + 1 + behind.length := by
  unfold restP
  rw [if_neg (by omega), List.length_append, List.length_append]
  rfl
theorem restsP_len : (restsP ahead behind n).length = ahead.length + restM n + behind.length := by
  unfold restsP
  rw [List.length_append, List.length_append, restRows_len]
theorem atA1 (hn : 0 < n) {i : Nat} (h : i < ahead.length) : (restP ahead behind n)[i]? = ahead[i]? := by
  unfold restP
  rw [List.append_assoc, List.getElem?_append_left h]
theorem atA2 (hn : 0 < n) : (restP ahead behind n)[ahead.length]? = some (.rest (n : Int)) := by
  unfold restP
  rw [if_neg (by omega), List.append_assoc, List.getElem?_append_right (Nat.le_refl _), Nat.sub_self]
  rfl
theorem atA3 (hn : 0 < n) {j : Nat} : (restP ahead behind n)[ahead.length + 1 + j]? = behind[j]? := by
  unfold restP
  rw [if_neg (by omega), List.getElem?_append_right (by rw [List.length_append]; show ahead.length + 1 ≤ _; omega), List.length_append]
  congr 1
  show ahead.length + 1 + j - (ahead.length + 1) = j
  omega
theorem atB1 {i : Nat} (h : i < ahead.length) : (restsP ahead behind n)[i]? = ahead[i]? := by
  unfold restsP
  rw [List.append_assoc, List.getElem?_append_left h]
theorem atB2 {q : Nat} (h : q < restM n) : (restsP ahead behind n)[ahead.length + q]? = some (if q < n / 9 then .rest 9 else .rest ((n % 9 : Nat) : Int)) := by
  unfold restsP
  rw [List.append_assoc, List.getElem?_append_right (by omega), List.getElem?_append_left (by rw [restRows_len]; omega)]
  have e : ahead.length + q - ahead.length = q := by omega
  rw [e]
  unfold restRows
  by_cases hq : q < n / 9
  · rw [if_pos hq, List.getElem?_append_left (by rw [List.length_replicate]; exact hq), List.getElem?_replicate, if_pos hq]
  · rw [if_neg hq, List.getElem?_append_right (by rw [List.length_replicate]; omega), List.length_replicate]
    unfold restM at h
    by_cases h9 : n % 9 = 0
    · rw [if_pos h9] at h
      omega
    · rw [if_neg h9] at h
      have e2 : q - n / 9 = 0 := by omega
      rw [if_neg h9, e2]
      rfl
theorem atB3 {j : Nat} : (restsP ahead behind n)[ahead.length + restM n + j]? = behind[j]? := by
  unfold restsP
  rw [List.getElem?_append_right (by rw [List.length_append, restRows_len]; omega), List.length_append, restRows_len]
  congr 1
  omega
structure Pos (ahead : List Row) (n : Nat) (S S' : MS) : Prop where
  c : S'.cells = S.cells
  m : S'.marks = S.marks
  p : (S'.row = S.row ∧ 0 ≤ S.row ∧ S.row < ahead.length ∧ S'.spent = S.spent) ∨
      (∃ t : Nat, S.row = ahead.length ∧ S.spent = (t : Int) ∧ t < n ∧ S'.row = ((ahead.length + t / 9 : Nat) : Int) ∧ S'.spent = ((t % 9 : Nat) : Int)) ∨
      (∃ j : Nat, S.row = ((ahead.length + 1 + j : Nat) : Int) ∧ S'.row = ((ahead.length + restM n + j : Nat) : Int) ∧ S'.spent = S.spent)
def PlainA (r : Row) : Prop := (∀ x, r ≠ .go x) ∧ (∀ x y, r ≠ .iff x y) ∧ (∀ x y, r ≠ .pair x y) ∧ r ≠ .fin
theorem eff_row {m : Nat} {S : MS} {ks : List Wk} {r : Row} (h : PlainA r) : (eff m S ks r).1.row = S.row + 1 ∧ (eff m S ks r).1.spent = 0 := by
  obtain ⟨h1, h2, h3, h4⟩ := h
  cases r <;> first | exact absurd rfl (h1 _) | exact absurd rfl (h2 _ _) | exact absurd rfl h4 | exact ⟨rfl, rfl⟩
theorem eff_anyLen {m m' : Nat} {S : MS} {ks : List Wk} {r : Row} (h : PlainA r) : eff m S ks r = eff m' S ks r := by
  obtain ⟨h1, h2, h3, h4⟩ := h
  cases r <;> first | exact absurd rfl h4 | rfl
def shR (c : Int) (S : MS) : MS := { S with row := S.row + c }
theorem eff_shift {m m' : Nat} {S : MS} {ks : List Wk} {r : Row} {c : Int} (h1 : ∀ x, r ≠ .go x) (h2 : ∀ x y, r ≠ .iff x y) (hm : (m' : Int) = (m : Int) + c) : eff m' (shR c S) ks r = (shR c (eff m S ks r).1, (eff m S ks r).2) := by
  have e : S.row + c + 1 = S.row + 1 + c := by omega
  cases r <;> first | exact absurd rfl (h1 _) | exact absurd rfl (h2 _ _) | (show (_, _) = _; unfold shR eff; simp only [e, hm])
theorem tick_shift {m m' : Nat} {S : MS} {ks : List Wk} {r : Row} {c : Int} (h1 : ∀ x, r ≠ .go x) (h2 : ∀ x y, r ≠ .iff x y) (hm : (m' : Int) = (m : Int) + c) : tick m' (shR c S) ks r = (shR c (tick m S ks r).1, (tick m S ks r).2) := by
  unfold tick
  have e : (shR c S).spent = S.spent := rfl
  rw [e]
  by_cases h : S.spent = r.beats
  · rw [if_pos h, if_pos h]
    exact eff_shift h1 h2 hm
  · rw [if_neg h, if_neg h]
theorem tick_row {m : Nat} {S : MS} {ks : List Wk} {r : Row} (h1 : ∀ x, r ≠ .go x) (h2 : ∀ x y, r ≠ .iff x y) (hf : r = .fin → False ∨ True) : (tick m S ks r).1.row = S.row ∧ (tick m S ks r).1 = S ∨ ((tick m S ks r).1.spent = 0 ∧ ((tick m S ks r).1.row = S.row + 1 ∨ (r = .fin ∧ (tick m S ks r).1.row = (m : Int)))) := by
  unfold tick
  split
  · refine .inr ⟨eff_sp0, ?_⟩
    cases r <;> first | exact absurd rfl (h1 _) | exact absurd rfl (h2 _ _) | exact .inl rfl | exact .inr ⟨rfl, rfl⟩
  · exact .inl ⟨rfl, rfl⟩
structure StB (ahead behind : List Row) : Prop where
  a : ∀ r ∈ ahead, PlainA r
  b : ∀ r ∈ behind, (∀ x, r ≠ .go x) ∧ (∀ x y, r ≠ .iff x y)
theorem pos_step (hn : 0 < n) (B : StB ahead behind) {S S' : MS} (P : Pos ahead n S S') {ks : List Wk} {took : Bool} {ws : List Int} {g : GH} :
    Pos ahead n (mstep (restP ahead behind n) S ks took ws).1 (mstep (restsP ahead behind n) S' ks took ws).1 ∧
    (mstep (restsP ahead behind n) S' ks took ws).2 = (mstep (restP ahead behind n) S ks took ws).2 ∧
    mstepG (restsP ahead behind n) S' took g = mstepG (restP ahead behind n) S took g := by
  obtain ⟨hc, hm, hp⟩ := P
  rcases hp with ⟨e1, r0, rl, e2⟩ | ⟨t, e1, e2, tn, e3, e4⟩ | ⟨j, e1, e2, e3⟩
  · /- ahead -/
    have eS : S' = S := by
      obtain ⟨a, b, c, d⟩ := S
      obtain ⟨a', b', c', d'⟩ := S'
      simp only at hc hm e1 e2
      subst hc hm e1 e2
      rfl
    subst eS
    have hl : S'.row.toNat < ahead.length := by omega
    obtain ⟨r, hr⟩ : ∃ r, ahead[S'.row.toNat]? = some r := ⟨_, List.getElem?_eq_getElem hl⟩
    have hA : (restP ahead behind n)[S'.row.toNat]? = some r := by rw [atA1 hn hl, hr]
    have hB : (restsP ahead behind n)[S'.row.toNat]? = some r := by rw [atB1 hl, hr]
    have pl := B.a r (List.mem_of_getElem? hr)
    have tk : ∀ S1 : MS, S1.row = S'.row → S1.marks = S1.marks → Pos ahead n (tick (restP ahead behind n).length S1 ks r).1 (tick (restsP ahead behind n).length S1 ks r).1 ∧ (tick (restsP ahead behind n).length S1 ks r).2 = (tick (restP ahead behind n).length S1 ks r).2 := by
      intro S1 h1 _
      unfold tick
      by_cases hs : S1.spent = r.beats
      · rw [if_pos hs, if_pos hs, eff_anyLen (m := (restsP ahead behind n).length) (m' := (restP ahead behind n).length) pl]
        obtain ⟨k1, k2⟩ := eff_row (m := (restP ahead behind n).length) (S := S1) (ks := ks) pl
        refine ⟨⟨rfl, rfl, ?_⟩, rfl⟩
        by_cases q : S'.row + 1 < ahead.length
        · exact .inl ⟨rfl, by rw [k1, h1]; omega, by rw [k1, h1]; exact q, rfl⟩
        · refine .inr (.inl ⟨0, by rw [k1, h1]; omega, by rw [k2]; rfl, hn, by rw [k1, h1]; simp; omega, by rw [k2]; rfl⟩)
      · rw [if_neg hs, if_neg hs]
        exact ⟨⟨rfl, rfl, .inl ⟨rfl, by rw [h1]; exact r0, by rw [h1]; exact rl, rfl⟩⟩, rfl⟩
    have Pz : Pos ahead n S' S' := ⟨rfl, rfl, .inl ⟨rfl, r0, rl, rfl⟩⟩
    unfold mstep mstepG
    simp only [hA, hB]
    cases hw : r.word S'.spent S'.cells with
    | none =>
      simp only [hw]
      obtain ⟨k1, k2⟩ := tk { S' with spent := S'.spent + 1 } rfl rfl
      exact ⟨k1, by rw [k2], trivial⟩
    | some zz =>
      obtain ⟨z, q, cl⟩ := zz
      simp only [hw]
      cases took with
      | true => exact ⟨Pz, rfl, trivial⟩
      | false =>
        obtain ⟨k1, k2⟩ := tk { S' with cells := (useW z q cl S'.cells ws).1, spent := S'.spent + 1 } rfl rfl
        exact ⟨k1, by simp only [Bool.false_eq_true, if_false]; rw [k2], trivial⟩
  · /- at rest -/
    have hA : (restP ahead behind n)[S.row.toNat]? = some (.rest (n : Int)) := by rw [e1, Int.toNat_natCast, atA2 hn]
    have tm : t / 9 < restM n := by
      unfold restM
      split <;> omega
    have hB : (restsP ahead behind n)[S'.row.toNat]? = some (if t / 9 < n / 9 then .rest 9 else .rest ((n % 9 : Nat) : Int)) := by rw [e3, Int.toNat_natCast, atB2 tm]
    have hB' : ∃ b : Nat, (restsP ahead behind n)[S'.row.toNat]? = some (.rest (b : Int)) ∧ ((t / 9 < n / 9 ∧ b = 9) ∨ (t / 9 = n / 9 ∧ b = n % 9)) := by
      by_cases h : t / 9 < n / 9
      · rw [if_pos h] at hB
        exact ⟨9, hB, .inl ⟨h, rfl⟩⟩
      · rw [if_neg h] at hB
        exact ⟨n % 9, hB, .inr ⟨by omega, rfl⟩⟩
    obtain ⟨b, hB', hb⟩ := hB'
    have eA : mstep (restP ahead behind n) S ks took ws = ((tick (restP ahead behind n).length { S with spent := S.spent + 1 } ks (.rest (n : Int))).1, ks, ws, .goes) := by
      unfold mstep
      simp only [hA]
      have : (tick (restP ahead behind n).length { S with spent := S.spent + 1 } ks (.rest (n : Int))).2 = ks := by unfold tick; split <;> rfl
      show (_, _, ws, MT.goes) = _
      rw [this]
    have eB : mstep (restsP ahead behind n) S' ks took ws = ((tick (restsP ahead behind n).length { S' with spent := S'.spent + 1 } ks (.rest (b : Int))).1, ks, ws, .goes) := by
      unfold mstep
      simp only [hB']
      have : (tick (restsP ahead behind n).length { S' with spent := S'.spent + 1 } ks (.rest (b : Int))).2 = ks := by unfold tick; split <;> rfl
      show (_, _, ws, MT.goes) = _
      rw [this]
    rw [eA, eB]
    refine ⟨?_, rfl, ?_⟩
    · have fA : (tick (restP ahead behind n).length { S with spent := S.spent + 1 } ks (.rest (n : Int))).1 = if t + 1 = n then { S with row := S.row + 1, spent := 0 } else { S with spent := S.spent + 1 } := by
        unfold tick
        have : (({ S with spent := S.spent + 1 } : MS).spent = (Row.rest (n : Int)).beats) ↔ t + 1 = n := by
          show S.spent + 1 = (n : Int) ↔ _
          rw [e2]
          omega
        by_cases h : t + 1 = n
        · rw [if_pos (this.mpr h), if_pos h]
          rfl
        · rw [if_neg (fun z => h (this.mp z)), if_neg h]
      have fB : (tick (restsP ahead behind n).length { S' with spent := S'.spent + 1 } ks (.rest (b : Int))).1 = if t % 9 + 1 = b then { S' with row := S'.row + 1, spent := 0 } else { S' with spent := S'.spent + 1 } := by
        unfold tick
        have : (({ S' with spent := S'.spent + 1 } : MS).spent = (Row.rest (b : Int)).beats) ↔ t % 9 + 1 = b := by
          show S'.spent + 1 = (b : Int) ↔ _
          rw [e4]
          omega
        by_cases h : t % 9 + 1 = b
        · rw [if_pos (this.mpr h), if_pos h]
          rfl
        · rw [if_neg (fun z => h (this.mp z)), if_neg h]
      show Pos ahead n (tick _ _ _ _).1 (tick _ _ _ _).1
      rw [fA, fB]
      by_cases h : t + 1 = n
      · have h9 : t % 9 + 1 = b := by omega
        rw [if_pos h, if_pos h9]
        refine ⟨hc, hm, .inr (.inr ⟨0, ?_, ?_, rfl⟩)⟩
        · show S.row + 1 = _
          omega
        · show S'.row + 1 = _
          rw [e3]
          unfold restM
          split <;> omega
      · rw [if_neg h]
        by_cases h9 : t % 9 + 1 = b
        · rw [if_pos h9]
          refine ⟨hc, hm, .inr (.inl ⟨t + 1, e1, ?_, by omega, ?_, ?_⟩)⟩
          · show S.spent + 1 = _
            omega
          · show S'.row + 1 = _
            omega
          · show (0 : Int) = _
            omega
        · rw [if_neg h9]
          refine ⟨hc, hm, .inr (.inl ⟨t + 1, e1, ?_, by omega, ?_, ?_⟩)⟩
          · show S.spent + 1 = _
            omega
          · show S'.row = _
            omega
          · show S'.spent + 1 = _
            omega
    · have gA : mstepG (restP ahead behind n) S took g = g := by
        unfold mstepG
        simp only [hA]
        show (if _ then g else g) = g
        split <;> rfl
      have gB : mstepG (restsP ahead behind n) S' took g = g := by
        unfold mstepG
        simp only [hB']
        show (if _ then g else g) = g
        split <;> rfl
      rw [gA, gB]
  · /- behind -/
    obtain ⟨c, hcc⟩ : ∃ c : Int, c = (restM n : Int) - 1 := ⟨_, rfl⟩
    have eS : S' = shR c S := by
      obtain ⟨a, b, c1, d⟩ := S
      obtain ⟨a', b', c', d'⟩ := S'
      simp only at hc hm e1 e2 e3
      unfold shR
      simp only [MS.mk.injEq]
      refine ⟨hc, hm, ?_, e3⟩
      omega
    have hlen : ((restsP ahead behind n).length : Int) = ((restP ahead behind n).length : Int) + c := by
      rw [restP_len hn, restsP_len]
      omega
    have hA : (restP ahead behind n)[S.row.toNat]? = behind[j]? := by rw [e1, Int.toNat_natCast, atA3 hn]
    have hB : (restsP ahead behind n)[S'.row.toNat]? = behind[j]? := by rw [e2, Int.toNat_natCast, atB3]
    have back : ∀ S1 : MS, (∃ j : Nat, S1.row = ((ahead.length + 1 + j : Nat) : Int)) → Pos ahead n S1 (shR c S1) := fun S1 ⟨j1, h1⟩ => ⟨rfl, rfl, .inr (.inr ⟨j1, h1, by show S1.row + c = _; omega, rfl⟩)⟩
    unfold mstep mstepG
    rw [hA, hB]
    cases hj : behind[j]? with
    | none =>
      simp only
      exact ⟨by rw [eS]; exact back S ⟨j, e1⟩, trivial, trivial⟩
    | some r =>
      obtain ⟨b1, b2⟩ := B.b r (List.mem_of_getElem? hj)
      have jl := (List.getElem?_eq_some_iff.mp hj).1
      have tk : ∀ S1 : MS, S1.row = S.row → Pos ahead n (tick (restP ahead behind n).length S1 ks r).1 (tick (restsP ahead behind n).length (shR c S1) ks r).1 ∧ (tick (restsP ahead behind n).length (shR c S1) ks r).2 = (tick (restP ahead behind n).length S1 ks r).2 := by
        intro S1 h1
        rw [tick_shift b1 b2 hlen]
        refine ⟨back _ ?_, rfl⟩
        rcases tick_row (m := (restP ahead behind n).length) (S := S1) (ks := ks) b1 b2 (fun _ => .inr trivial) with ⟨k1, _⟩ | ⟨_, k1 | ⟨_, k1⟩⟩
        · exact ⟨j, by rw [k1, h1, e1]⟩
        · exact ⟨j + 1, by rw [k1, h1, e1]; omega⟩
        · exact ⟨behind.length, by rw [k1, restP_len hn]⟩
      simp only [eS]
      have es : (shR c S).spent = S.spent := rfl
      have ec : (shR c S).cells = S.cells := rfl
      rw [es, ec]
      cases hw : r.word S.spent S.cells with
      | none =>
        simp only [hw]
        obtain ⟨k1, k2⟩ := tk { S with spent := S.spent + 1 } rfl
        exact ⟨k1, by rw [← k2]; rfl, trivial⟩
      | some zz =>
        obtain ⟨z, q, cl⟩ := zz
        simp only [hw]
        cases took with
        | true => exact ⟨back S ⟨j, e1⟩, rfl, trivial⟩
        | false =>
          obtain ⟨k1, k2⟩ := tk { S with cells := (useW z q cl S.cells ws).1, spent := S.spent + 1 } rfl
          exact ⟨k1, by simp only [Bool.false_eq_true, if_false]; rw [← k2]; rfl, trivial⟩
end
end SB

set_option Elab.async false
set_option linter.all false
set_option maxRecDepth 100000
set_option maxHeartbeats 4000000
namespace SB
open PySem L2
section
variable {ahead behind : List Row} {n : Nat}
def shy (c : Int) (y : Pq) : Pq := (y.1 + c, y.2)
structure Sm22 (ahead behind : List Row) (n : Nat) (s s' : HS) (wp wp' : WP) : Prop where
  p : s.prog = restP ahead behind n
  p' : s'.prog = restsP ahead behind n
  a : s'.asks = s.asks
  k : s'.ks = s.ks
  t : s'.took = s.took
  w : s'.ws = s.ws
  b : s'.beats = s.beats
  pos : Pos ahead n s.S s'.S
  fg : wp'.fg = wp.fg
  pr : wp'.pr = wp.pr.map (shy ((restM n : Int) - 1))
theorem pos_word (hn : 0 < n) {S S' : MS} (P : Pos ahead n S S') : (wantedOf (restsP ahead behind n) S').isSome = (wantedOf (restP ahead behind n) S).isSome := by
  obtain ⟨hc, hm, hp⟩ := P
  unfold wantedOf
  rcases hp with ⟨e1, r0, rl, e2⟩ | ⟨t, e1, e2, tn, e3, e4⟩ | ⟨j, e1, e2, e3⟩
  · rw [e1, atA1 hn (by omega), atB1 (by omega), e2, hc]
  · have tm : t / 9 < restM n := by
      unfold restM
      split <;> omega
    rw [e1, e3, Int.toNat_natCast, Int.toNat_natCast, atA2 hn, atB2 tm]
    by_cases q : t / 9 < n / 9
    · rw [if_pos q]
      rfl
    · rw [if_neg q]
      rfl
  · rw [e1, e2, Int.toNat_natCast, Int.toNat_natCast, atA3 hn, atB3, e3, hc]
theorem Sm22.next (hn : 0 < n) (B : StB ahead behind) {s s' : HS} {wp wp' : WP} (h : Sm22 ahead behind n s s' wp wp') (g : GH) :
    Sm22 ahead behind n s.next s'.next (wpnext s wp) (wpnext s' wp') ∧ s'.gnext g = s.gnext g := by
  have ed : s'.dm = s.dm := by
    unfold HS.dm
    rw [h.b, h.k, h.a, h.t, h.p, h.p', pos_word hn h.pos, h.pos.m, h.w]
  have em1 : s.ms = mstep (restP ahead behind n) s.S s.dm.1 s.dm.2.1 s.dm.2.2.1 := by unfold HS.ms; rw [h.p]
  have em2 : s'.ms = mstep (restsP ahead behind n) s'.S s.dm.1 s.dm.2.1 s.dm.2.2.1 := by unfold HS.ms; rw [h.p', ed]
  obtain ⟨q1, q2, q3⟩ := pos_step hn B h.pos (ks := s.dm.1) (took := s.dm.2.1) (ws := s.dm.2.2.1) (g := s.gmove g)
  rw [← em1, ← em2] at q1 q2
  have eg : s'.gmove g = s.gmove g := by
    unfold HS.gmove
    have ew : s'.wake g = s.wake g := by
      unfold HS.wake askedOf
      rw [h.a, h.b]
    rw [h.b, h.k, h.a, h.t, h.p, h.p', pos_word hn h.pos, h.pos.m, h.w, ew]
  have eS : s.next.S = s.ms.1 := rfl
  have eS' : s'.next.S = s'.ms.1 := rfl
  have ee : s'.ent.2 = s.ent.2 := by
    show s'.ms.2.2.2 = s.ms.2.2.2
    rw [q2]
  have key : (wpnext s' wp').fg = (wpnext s wp).fg ∧ (wpnext s' wp').pr = (wpnext s wp).pr.map (shy ((restM n : Int) - 1)) := by
    have hp := h.pos.p
    unfold wpnext
    rw [h.p, h.p', ee]
    rcases hp with ⟨e1, r0, rl, e2⟩ | ⟨t, e1, e2, tn, e3, e4⟩ | ⟨j, e1, e2, e3⟩
    · have hl : s.S.row.toNat < ahead.length := by omega
      obtain ⟨r, hr⟩ : ∃ r, ahead[s.S.row.toNat]? = some r := ⟨_, List.getElem?_eq_getElem hl⟩
      have pl := B.a r (List.mem_of_getElem? hr)
      rw [e1, atA1 hn hl, atB1 hl, hr]
      obtain ⟨_, _, h3, _⟩ := pl
      cases r <;> first | exact absurd rfl (h3 _ _) | exact ⟨h.fg, h.pr⟩
    · have tm : t / 9 < restM n := by
        unfold restM
        split <;> omega
      rw [e1, e3, Int.toNat_natCast, Int.toNat_natCast, atA2 hn, atB2 tm]
      by_cases q : t / 9 < n / 9
      · rw [if_pos q]
        exact ⟨h.fg, h.pr⟩
      · rw [if_neg q]
        exact ⟨h.fg, h.pr⟩
    · rw [e1, e2, Int.toNat_natCast, Int.toNat_natCast, atA3 hn, atB3]
      cases hj : behind[j]? with
      | none => exact ⟨h.fg, h.pr⟩
      | some r =>
        have hA : s.prog[s.S.row.toNat]? = some r := by rw [h.p, e1, Int.toNat_natCast, atA3 hn, hj]
        cases r with
        | pair x y =>
          cases he : s.ent.2 with
          | word z ad v =>
            simp only
            have esp : s'.next.S.spent = s.next.S.spent := by
              have hB : s'.prog[s'.S.row.toNat]? = some (.pair x y) := by rw [h.p', e2, Int.toNat_natCast, atB3, hj]
              rcases pair_ms hA with ⟨_, k1, _⟩ | ⟨_, _, k2, _⟩
              · rw [he] at k1
                cases k1
              · rcases pair_ms hB with ⟨_, k1', _⟩ | ⟨_, _, k2', _⟩
                · rw [ee, he] at k1'
                  cases k1'
                · rw [k2, k2', e3]
            rw [esp, h.b]
            unfold WP.note
            by_cases hd : decide (s.next.S.spent = 0) = true
            · rw [if_pos hd, if_pos hd]
              refine ⟨h.fg, ?_⟩
              show wp'.pr ++ [_] = (wp.pr ++ [_]).map _
              rw [List.map_append, h.pr, h.fg]
              congr 1
              show [((((ahead.length + restM n + j : Nat) : Int)), _)] = [((((ahead.length + 1 + j : Nat) : Int) + ((restM n : Int) - 1)), _)]
              congr 2
              omega
            · rw [if_neg hd, if_neg hd]
              exact ⟨rfl, h.pr⟩
          | _ => exact ⟨h.fg, h.pr⟩
        | _ => exact ⟨h.fg, h.pr⟩
  refine ⟨⟨h.p, h.p', h.a, ?_, ?_, ?_, ?_, ?_, key.1, key.2⟩, ?_⟩
  · show s'.ms.2.1 = s.ms.2.1
    rw [q2]
  · show s'.dm.2.1 = s.dm.2.1
    rw [ed]
  · show s'.ms.2.2.1 = s.ms.2.2.1
    rw [q2]
  · show s'.beats + 1 = s.beats + 1
    rw [h.b]
  · exact q1
  · unfold HS.gnext
    rw [eg, ed, h.p, h.p']
    exact q3
theorem sim22 (hn : 0 < n) (B : StB ahead behind) (ha : ahead.length = 0 → True) {as : List (Int × Int)} {ks : List Wk} {ws : List Int} (g : GH) : ∀ i, Sm22 ahead behind n ((HS.at0 (restP ahead behind n) as ks ws).after i) ((HS.at0 (restsP ahead behind n) as ks ws).after i) (wpN (HS.at0 (restP ahead behind n) as ks ws) i) (wpN (HS.at0 (restsP ahead behind n) as ks ws) i) ∧
    (HS.at0 (restsP ahead behind n) as ks ws).gafter g i = (HS.at0 (restP ahead behind n) as ks ws).gafter g i
  | 0 => by
    refine ⟨⟨rfl, rfl, rfl, rfl, rfl, rfl, rfl, ⟨rfl, rfl, ?_⟩, rfl, rfl⟩, rfl⟩
    by_cases h : 0 < ahead.length
    · exact .inl ⟨rfl, Int.le_refl 0, by show (0 : Int) < _; omega, rfl⟩
    · refine .inr (.inl ⟨0, ?_, rfl, hn, ?_, rfl⟩)
      · show (0 : Int) = _
        omega
      · show (0 : Int) = _
        omega
  | i + 1 => by
    obtain ⟨h1, h2⟩ := sim22 hn B ha (as := as) (ks := ks) (ws := ws) g i
    obtain ⟨h3, h4⟩ := h1.next hn B ((HS.at0 (restP ahead behind n) as ks ws).gafter g i)
    refine ⟨h3, ?_⟩
    show ((HS.at0 (restsP ahead behind n) as ks ws).after i).gnext ((HS.at0 (restsP ahead behind n) as ks ws).gafter g i) = _
    rw [h2, h4]
    rfl
theorem tornsL_shift {ks : List Wk} {size : Nat} {G : List Go} {c : Int} : ∀ {ys : List Pq}, (tornsL ks size G (ys.map (shy c))).isEmpty = (tornsL ks size G ys).isEmpty
  | [] => rfl
  | y :: r => by
    have ih := tornsL_shift (ks := ks) (size := size) (G := G) (c := c) (ys := r)
    show (tornY ks size G (shy c y) ++ tornsL ks size G (r.map (shy c))).isEmpty = (tornY ks size G y ++ tornsL ks size G r).isEmpty
    have e1 : (tornY ks size G (shy c y)).isEmpty = (tornY ks size G y).isEmpty := by
      unfold tornY
      rw [List.isEmpty_map, List.isEmpty_map]
      rfl
    rw [Bool.eq_iff_iff] at ih e1 ⊢
    simp only [List.isEmpty_iff, List.append_eq_nil_iff] at ih e1 ⊢
    rw [ih, e1]
theorem whole22 (hn : 0 < n) (B : StB ahead behind) {as : List (Int × Int)} {ks : List Wk} {ws : List Int} {i : Nat} : wholeN (restsP ahead behind n) as ks ws ((ahead.length + restM n : Nat) : Int) i = wholeN (restP ahead behind n) as ks ws ((ahead.length + 1 : Nat) : Int) i := by
  obtain ⟨h1, h2⟩ := sim22 hn B (fun _ => trivial) (as := as) (ks := ks) (ws := ws) (GH.none ks.length) i
  unfold wholeN wholeB
  rw [h2, h1.pr, List.filter_map]
  have ef : ((fun y : Pq => decide (y.1 = ((ahead.length + restM n : Nat) : Int))) ∘ shy ((restM n : Int) - 1)) = fun y : Pq => decide (y.1 = ((ahead.length + 1 : Nat) : Int)) := by
    funext y
    show decide (y.1 + ((restM n : Int) - 1) = _) = decide _
    by_cases q : y.1 = ((ahead.length + 1 : Nat) : Int)
    · rw [decide_eq_true q, decide_eq_true (by omega)]
    · rw [decide_eq_false q, decide_eq_false (by omega)]
  rw [ef]
  exact tornsL_shift
theorem whole22z (B : StB ahead behind) {as : List (Int × Int)} {ks : List Wk} {ws : List Int} {i : Nat} : wholeN (restsP ahead behind n) as ks ws ((ahead.length + restM n : Nat) : Int) i = wholeN (restP ahead behind n) as ks ws ((restR ahead n : Nat) : Int) i := by
  by_cases hn : n = 0
  · subst hn
    rfl
  · have e : restR ahead n = ahead.length + 1 := by unfold restR; rw [if_neg hn]
    rw [e]
    exact whole22 (by omega) B
theorem allWhole22 (B : StB ahead behind) {ks : List Wk} {ws : List Int} {wk : Int} : ∀ {m : Nat} {lo : Int}, allWhole (restsP ahead behind n) ks ws wk ((ahead.length + restM n : Nat) : Int) lo m = allWhole (restP ahead behind n) ks ws wk ((restR ahead n : Nat) : Int) lo m
  | 0, lo => rfl
  | m + 1, lo => by
    rw [allWhole_succ, allWhole_succ, whole22z B, allWhole22 B]
theorem firstT_allWhole {prog : List Row} {ks : List Wk} {ws : List Int} {wk row : Int} : ∀ {n : Nat} {lo : Int}, (firstT (fun b => !holdsAt prog ks ws wk (.whole row) b) lo n = none ↔ allWhole prog ks ws wk row lo n = true)
  | 0, lo => ⟨fun _ => rfl, fun _ => rfl⟩
  | n + 1, lo => by
    rw [allWhole_succ]
    have e : holdsAt prog ks ws wk (.whole row) lo = wholeN prog [(lo, wk)] ks ws row 300 := rfl
    show (if (!holdsAt prog ks ws wk (.whole row) lo) = true then some lo else firstT _ (lo + 1) n) = none ↔ _
    rw [e]
    have ih := firstT_allWhole (prog := prog) (ks := ks) (ws := ws) (wk := wk) (row := row) (n := n) (lo := lo + 1)
    cases wholeN prog [(lo, wk)] ks ws row 300 with
    | false =>
      constructor
      · intro z
        cases z
      · intro z
        cases z
    | true =>
      rw [Bool.true_and]
      exact ih
theorem firstT_congr {f g : Int → Bool} (h : ∀ b, f b = g b) : ∀ {n : Nat} {lo : Int}, firstT f lo n = firstT g lo n
  | 0, lo => rfl
  | n + 1, lo => by
    show (if f lo = true then some lo else firstT f (lo + 1) n) = (if g lo = true then some lo else firstT g (lo + 1) n)
    rw [h, firstT_congr h]
theorem pr_rows {s : HS} {row : Int} (h : ∀ (i : Nat) (a c : Int), s.prog[i]? = some (.pair a c) → (i : Int) = row) (O : HOk s) : ∀ n, ∀ y ∈ (wpN s n).pr, y.1 = row
  | 0 => fun y hy => by cases hy
  | n + 1 => fun y hy => by
    have ih := pr_rows h O n
    have hy : y ∈ (wpnext (s.after n) (wpN s n)).pr := hy
    rcases wpnext_pr (s := s.after n) (wp := wpN s n) with e | ⟨x, e⟩
    · rw [e] at hy
      exact ih y hy
    · have hp : ∃ a c, (s.after n).prog[(s.after n).S.row.toNat]? = some (.pair a c) := by
        unfold wpnext at e
        cases hr : (s.after n).prog[(s.after n).S.row.toNat]? with
        | none =>
          rw [hr] at e
          have := congrArg List.length e
          simp at this
        | some r =>
          rw [hr] at e
          cases r with
          | pair a c => exact ⟨a, c, rfl⟩
          | _ =>
            have := congrArg List.length e
            simp at this
      obtain ⟨a, c, hp⟩ := hp
      rw [after_prog] at hp
      have r0 := (O.after n).m.row0
      have hrow := h _ _ _ hp
      rw [e] at hy
      rcases List.mem_append.mp hy with z | z
      · exact ih y z
      · have ey : y = ((s.after n).S.row, x) := by simpa using z
        rw [ey]
        show (s.after n).S.row = row
        omega
theorem torn_whole {prog : List Row} {ks : List Wk} {ws : List Int} {wk row b : Int} (h : ∀ (i : Nat) (a c : Int), prog[i]? = some (.pair a c) → (i : Int) = row) (O : HOk (HS.at0 prog [(b, wk)] ks ws)) : tornAt prog ks ws wk b = !holdsAt prog ks ws wk (.whole row) b := by
  have e : holdsAt prog ks ws wk (.whole row) b = wholeN prog [(b, wk)] ks ws row 300 := rfl
  rw [e]
  unfold tornAt wholeN wholeB tornsOf
  congr 2
  congr 1
  symm
  refine List.filter_eq_self.mpr fun y hy => ?_
  exact decide_eq_true (pr_rows (s := HS.at0 prog [(b, wk)] ks ws) h O 300 y hy)
end
end SB

set_option Elab.async false
set_option linter.all false
set_option maxRecDepth 100000
set_option maxHeartbeats 2000000
namespace SB
open PySem L2
section
variable {P : Program} {w : World} {K : PySem.W.Frag} {mg : Str → Option Value} {base : Heap}
def sp_l_words (K : PySem.W.Frag) : Sp := fun vs H Q _ => ∃ (d sl : Addr) (f p : Int) (cs : List Int), vs = [.ref d] ∧ DiceAt H d sl f p cs ∧ cs.length ≤ 63 ∧
  ∀ (H' : Hp) (f' p' : Int) (cs' : List Int) (l : Addr) (ws : List Int), DiceAt H' d sl f' p' cs' → cs'.length = cs.length → Kept [d, sl] H H' → H l = none → H' l = some (.lst (ws.map V.int)) → 4 ≤ ws.length → ws.length ≤ 32 → (∀ x ∈ ws, rg 0 999 x) → Q (.ref l) H'
theorem ok_l_words (T : T w K mg) : FnR P w K mg base CX0 2 (He.ga K "_law_words") (sp_l_words K) := by
  have F_l_off : FnR P w K mg base CX0 1 _ _ := ok_l_off T
  obtain ⟨fd, F⟩ := T.f_l_words
  refine F.r sc_l_words (fun _ _ _ _ _ _ us hl => match us, hl with | [_], _ => rfl) (fun vs H Q E h => ?_) (fun cdv A outer s H vs Q E hr h => ?_)
  · obtain ⟨_, _, _, _, _, rfl, _⟩ := h
    rfl
  · obtain ⟨d, sl, f, p, cs, rfl, D, c63, q⟩ := h
    refine ⟨_, (pss_one (ps_ret (pe_lc (own := [("_law_k", 1)]) (g := gName 1) (tt := tYes) (te := tCallR (sp_l_off K) (tCons (tVar 0) (tCons (tC (.int 1000)) tNil))) rfl sc_l_words.nd
        (pi_range1 rfl T.u_range (pa_cons (pe_op op_add pe_int (pe_callR F_l_off (hr.mono (by decide)) rfl T.g_l_off T.k_l_off (pa_cons (pv 0) (pa_cons (pe_ix ix_list (pe_lst (pa_cons pe_int (pa_cons pe_int pa_nil))) (pe_callR F_l_off (hr.mono (by decide)) rfl T.g_l_off T.k_l_off (pa_cons (pv 0) (pa_cons pe_int pa_nil))) (fun _ _ => rfl)) pa_nil)))) pa_nil))
        (blkOk_by (N := ["_law_d", "_law_k"]) (sc := defScope s_l_words) (by decide +kernel))
        (fun _ _ _ _ _ => pg_name (i := 1) sc_l_words.nd rfl (Or.inl rfl)) (fun _ _ _ _ _ => pts_nil)
        (fun _ _ _ _ _ => pe_callR F_l_off (hr.mono (by decide)) rfl T.g_l_off T.k_l_off (pa_cons (pv 0) (pa_cons pe_int pa_nil)))))), ?_⟩
    refine ⟨_, rfl, ?_⟩ -- _law_d
    refine ⟨by show 2 ≤ sizeLine; decide, fun b hb => ?_⟩ -- [5, 29]
    have s1 : Same H (upd H b (.lst [.int 5, .int 29])) := Same.new (Same.refl H) hb
    refine ⟨_, rfl, d, sl, f, p, cs, 2, rfl, D.same s1, c63, by decide, by decide, fun H2 f2 p2 cs2 v D2 c2 k2 v0 v1 => ?_⟩ -- off(2)
    have kb : H2 b = some (.lst [.int 5, .int 29]) := by
      refine k2 _ _ upd_same ?_
      have h1 : b ≠ d := fun z => by rw [z, D.ob] at hb; cases hb
      have h2 : b ≠ sl := fun z => by rw [z, D.ls] at hb; cases hb
      simp [h1, h2]
    obtain ⟨m, hm, m0, m1⟩ : ∃ m : Int, atI ([.int 5, .int 29] : List V) v = some (.int m) ∧ 5 ≤ m ∧ m ≤ 29 := by
      have : v = 0 ∨ v = 1 := by omega
      rcases this with rfl | rfl
      · exact ⟨5, rfl, by decide, by decide⟩
      · exact ⟨29, rfl, by decide, by decide⟩
    refine ⟨_, _, _, _, rfl, rfl, SqL.of kb, hm, ?_⟩
    refine ⟨d, sl, f2, p2, cs2, m, rfl, D2, by omega, by omega, by omega, fun H3 f3 p3 cs3 n D3 c3 k3 n0 n1 => ?_⟩ -- off(m)
    refine ⟨_, _, rfl, rfl, ?_⟩
    refine ⟨4 + n, rfl, by omega, by omega, fun R hR => ?_⟩
    have kk3 : Kept [d, sl] H H3 := ((Kept.same s1).trans k2).trans k3
    have fr : ∀ {H9 : Hp} {f9 p9 : Int} {cs9 : List Int} {y : Addr}, Kept [d, sl] H H9 → DiceAt H9 d sl f9 p9 cs9 → H9 y = none → H y = none := fun {H9 f9 p9 cs9 y} k9 D9 hy => by
      refine k9.free hy fun z => ?_
      have e : y = d ∨ y = sl := by simpa using z
      rcases e with rfl | rfl
      · rw [D9.ob] at hy; cases hy
      · rw [D9.ls] at hy; cases hy
    have hR0 : H R = none := fr kk3 D3 hR
    have Rd : R ≠ d := fun z => by rw [z, D.ob] at hR0; cases hR0
    have Rs : R ≠ sl := fun z => by rw [z, D.ls] at hR0; cases hR0
    have sR : Same H3 (upd H3 R (.lst [])) := Same.new (Same.refl H3) hR
    refine lc_it walk_range (fun i H4 => ∃ (f4 p4 : Int) (cs4 ws : List Int), DiceAt H4 d sl f4 p4 cs4 ∧ cs4.length = cs.length ∧ Kept [d, sl] H H4 ∧ H4 R = some (.lst (ws.map V.int)) ∧ ws.length = i ∧ ∀ x ∈ ws, rg 0 999 x)
      ⟨f3, p3, cs3, [], D3.same sR, by omega, kk3.new hR0, upd_same, rfl, by simp⟩ (fun i H4 _ _ => trivial) ?_ ?_
    · rintro i x H4 H5 hi ⟨f4, p4, cs4, ws, D4, c4, k4, hR4, hl, hx⟩ ⟨rfl, rfl⟩
      refine ⟨rfl, yes ?_⟩
      refine ⟨_, rfl, d, sl, f4, p4, cs4, 1000, rfl, D4, by omega, by decide, by decide, fun H6 f6 p6 cs6 v6 D6 c6 k6 v60 v61 => ?_⟩
      have hR6 : H6 R = some (.lst (ws.map V.int)) := k6 _ _ hR4 (by simp [Rd, Rs])
      refine ⟨_, hR6, by rw [List.length_map, hl]; exact Nat.lt_of_lt_of_le hi (Nat.le_trans (show (4 + n).toNat ≤ 100 by omega) (by decide)), f6, p6, cs6, ws ++ [v6], ?_, by omega, ?_, ?_, by simp [hl], ?_⟩
      · exact ⟨by rw [upd_ne (Ne.symm Rd)]; exact D6.ob, by rw [upd_ne (Ne.symm Rs)]; exact D6.ls, D6.f0, D6.f1, D6.p0, D6.ne⟩
      · exact (k4.trans k6).new hR0
      · rw [upd_same, List.map_append]
        rfl
      · intro y hy
        rcases List.mem_append.mp hy with hy | hy
        · exact hx y hy
        · have e : y = v6 := by simpa using hy
          rw [e]
          exact ⟨v60, by omega⟩
    · rintro H4 ⟨f4, p4, cs4, ws, D4, c4, k4, hR4, hl, hx⟩
      exact q _ f4 p4 cs4 R ws D4 c4 k4 hR0 hR4 (by omega) (by omega) hx
end
end SB

set_option Elab.async false
set_option linter.all false
set_option maxRecDepth 100000
set_option maxHeartbeats 2000000
namespace SB
open PySem L2
def rIxLT (K : PySem.W.Frag) : R2 := fun x y H Q => rIxL K x y H Q ∨ rIxT K x y H Q
theorem ix_lt {X : Cx} : IxR X (rIxLT X.K) := by
  intro value slice pins s σ H x y v u Q I rx ry h e
  rcases h with h | h
  · exact ix_list value slice pins s σ H x y v u Q I rx ry h e
  · exact ix_tup value slice pins s σ H x y v u Q I rx ry h e
inductive Sm : PyData → Prop
  | non : Sm .none
  | bl (b : Bool) : Sm (.bool b)
  | int (i : Int) : Sm (.int i)
  | str (x : Str) : Sm (.str x)
  | lst {ds : List PyData} (h : ds.length ≤ 1000) (a : ∀ d ∈ ds, Sm d) : Sm (.list ds)
  | tup {ds : List PyData} (h : ds.length ≤ 1000) (a : ∀ d ∈ ds, Sm d) : Sm (.tuple ds)
  | wide {ds : List PyData} (h : ds.length ≤ 1000000) (a : ∀ d ∈ ds, Sm d) : Sm (.list ds)
theorem depth_mem : ∀ {ds : List PyData} {d : PyData}, d ∈ ds → PyData.depth d ≤ PyData.depthAll ds
  | x :: r, d, h => by
    show _ ≤ max (PyData.depth x) (PyData.depthAll r)
    rcases List.mem_cons.mp h with rfl | h
    · exact Nat.le_max_left _ _
    · exact Nat.le_trans (depth_mem h) (Nat.le_max_right _ _)
section
variable {P : Program} {w : World} {K : PySem.W.Frag} {mg : Str → Option Value} {base : Heap} {H H' : Hp}
theorem dpAll_at : ∀ {xs : List V} {ds : List PyData}, DpAll K H xs ds → xs.length = ds.length ∧ ∀ (j : Nat) (x : V) (d : PyData), xs[j]? = some x → ds[j]? = some d → Dp K H x d
  | _, _, .nil => ⟨rfl, fun j x d e => by simp at e⟩
  | _, _, .cons h t => by
    obtain ⟨h1, h2⟩ := dpAll_at t
    refine ⟨by simp [h1], fun j x d e1 e2 => ?_⟩
    cases j with
    | zero =>
      have a1 := Option.some.inj e1
      have a2 := Option.some.inj e2
      subst a1 a2
      exact h
    | succ j => exact h2 j x d (by simpa using e1) (by simpa using e2)
mutual
theorem dp_same (s : Same H H') : ∀ {v : V} {d : PyData}, Dp K H v d → Dp K H' v d
  | _, _, .non => .non
  | _, _, .bl b => .bl b
  | _, _, .int i => .int i
  | _, _, .str x => .str x
  | _, _, .lst h t => .lst (s.seq h) (dpAll_same s t)
  | _, _, .tup h t => .tup (Same.tup s h) (dpAll_same s t)
theorem dpAll_same (s : Same H H') : ∀ {vs : List V} {ds : List PyData}, DpAll K H vs ds → DpAll K H' vs ds
  | _, _, .nil => .nil
  | _, _, .cons h t => .cons (dp_same s h) (dpAll_same s t)
end
def sp_alike (K : PySem.W.Frag) (n : Nat) : Sp := fun vs H Q _ => ∃ (x y : V) (d : PyData), vs = [x, y] ∧ Dp K H x d ∧ Dp K H y d ∧ Sm d ∧ PyData.depth d ≤ n ∧ ∀ H', Same H H' → Q (.bl true) H'
end
end SB

set_option Elab.async false
set_option linter.all false
set_option maxRecDepth 100000
set_option maxHeartbeats 4000000
namespace SB
open PySem PySem.Spec PyProof.Rows L2 LamX
theorem viaV {te : TE} {σ : L2.St} {H : Hp} {Q : VK} {v : V} (h : ∀ Q' : VK, Q' v H → te σ H Q') (q : Q v H) : te σ H Q := h Q q
section
variable {P : Program} {w : World} {K : PySem.W.Frag} {mg : Str → Option Value} {base : Heap}
theorem okx {x qual : Str} {params : Arguments} {body : List Stmt} {scope : Scope} {f : Addr} {fd : FuncData} {N ps : List Str} {k : Nat} {sp : Sp} (F : FunD K x qual params body scope [] [] f fd) (S : FnScope N ps scope)
    (len : ∀ vs H Q E, sp vs H Q E → vs.length = ps.length)
    (hbody : ∀ (cdv : Value) (A : Around) (outer : List Env) (s : Shared) (H : Hp) (vs : List V) (Q : VK) (E : XK), Room k (A.deeper (envOfC qual scope s.heap.objs.size f cdv)) → sp vs H Q E →
      ∃ t, PSs (cxOf CX0 P w K mg base N qual scope f cdv A outer s H E).nox body t ∧ t { nx := fun _ H' => Q .non H', rt := Q } (start N vs) H) : FnOk P w K mg base CX0 (k + 1) f fd ps sp := by
  refine F.ok (CX := CX0) S len (fun cdv A outer s H vs Q E hr hs => ?_)
  obtain ⟨t, h1, h2⟩ := hbody cdv A outer s H vs Q E hr hs
  exact ⟨t, h1.nox, h2⟩
theorem DiceAt.inD {H : Hp} {d sl : Addr} {f p : Int} {cs : List Int} (D : DiceAt H d sl f p cs) : ∀ b ∈ [d, sl], ∃ u, H b = some u ∧ notTup u = true := fun b hb => by
  have e : b = d ∨ b = sl := by simpa using hb
  rcases e with rfl | rfl
  · exact ⟨_, D.ob, rfl⟩
  · exact ⟨_, D.ls, rfl⟩
theorem TupsAt.works {H : Hp} {wl : Addr} {ts : List Addr} {ks : List Wk} (t : TupsAt H wl ts (ks.map Wk.vs)) : WorksAt K H wl ts ks :=
  ⟨SqL.of t.lst, by rw [t.len, List.length_map], fun j p k e1 e2 => SqT.of (t.at_ j p _ e1 (by rw [List.getElem?_map, e2]; rfl))⟩
theorem TupsAt.asks {H : Hp} {al : Addr} {qs : List Addr} {as : List (Int × Int)} (t : TupsAt H al qs (as.map puV)) : AsksAt K H al qs as :=
  ⟨SqL.of t.lst, by rw [t.len, List.length_map], fun j p x e1 e2 => SqT.of (t.at_ j p _ e1 (by rw [List.getElem?_map, e2]; rfl))⟩
end
theorem sm_ints (ns : List Int) (h : ns.length ≤ 1000) : Sm (.list (pyInts ns)) := .lst (by unfold pyInts; rw [List.length_map]; exact h) (fun d hd => by
  obtain ⟨i, _, rfl⟩ := List.mem_map.mp hd
  exact .int i)
theorem sm_dT (t : Option (Int × Str × Int × Int)) : Sm (dT t) := by
  cases t with
  | none => exact .non
  | some z =>
    obtain ⟨a, b, c, e⟩ := z
    refine .tup (by show (4 : Nat) ≤ 1000; decide) (fun d hd => ?_)
    simp only [List.mem_cons, List.not_mem_nil, or_false] at hd
    rcases hd with rfl | rfl | rfl | rfl
    · exact .int _
    · exact .str _
    · exact .int _
    · exact .int _
theorem sm_dM (t : MT) : Sm (dM t) := by
  cases t with
  | word z a x =>
    refine .tup (by show (3 : Nat) ≤ 1000; decide) (fun d hd => ?_)
    simp only [List.mem_cons, List.not_mem_nil, or_false] at hd
    rcases hd with rfl | rfl | rfl
    · exact .str _
    · exact .int _
    · exact .int _
  | ends => exact .str _
  | waits => exact .str _
  | goes => exact .str _
theorem sm_dE (e : BeatE) : Sm (dE e) := by
  refine .tup (by show 2 ≤ 1000; decide) (fun d hd => ?_)
  simp only [List.mem_cons, List.not_mem_nil, or_false] at hd
  rcases hd with rfl | rfl
  · exact sm_dT _
  · exact sm_dM _
theorem sm_map {α : Type} {f : α → PyData} {xs : List α} (h : xs.length ≤ 1000) (g : ∀ x ∈ xs, Sm (f x)) : Sm (.list (xs.map f)) := .lst (by rw [List.length_map]; exact h) (fun d hd => by
  obtain ⟨i, hi, rfl⟩ := List.mem_map.mp hd
  exact g i hi)
theorem sm_dSh {s : HS} (hc : s.S.cells.length ≤ 1000) (hw : s.ws.length ≤ 1000) (hm : s.S.marks.length ≤ 1000) (hg : (goFrom 0 s.ks).length ≤ 1000) : Sm (dSh s) := by
  refine .tup (by show 6 ≤ 1000; decide) (fun d hd => ?_)
  simp only [List.mem_cons, List.not_mem_nil, or_false] at hd
  rcases hd with rfl | rfl | rfl | rfl | rfl | rfl
  · exact .int _
  · unfold rowD; split
    · exact .non
    · exact .int _
  · exact sm_ints _ hc
  · exact sm_ints _ hw
  · exact sm_map hm (fun x _ => .bl x)
  · refine sm_map hg (fun x _ => .tup (by show 3 ≤ 1000; decide) (fun d hd => ?_))
    simp only [List.mem_cons, List.not_mem_nil, or_false] at hd
    rcases hd with rfl | rfl | rfl
    · exact .int _
    · exact .int _
    · exact .bl _
theorem sm_dRun {es : List BeatE} {s : HS} (he : es.length ≤ 1000) (h : Sm (dSh s)) : Sm (dRun es s) := by
  refine .tup (by show 2 ≤ 1000; decide) (fun d hd => ?_)
  simp only [List.mem_cons, List.not_mem_nil, or_false] at hd
  rcases hd with rfl | rfl
  · exact sm_map he (fun x _ => sm_dE x)
  · exact h
theorem next_len {s : HS} : s.next.ws.length = s.ws.length ∧ s.next.ks.length = s.ks.length := by
  constructor
  · show s.ms.2.2.1.length = _
    unfold HS.ms
    rw [mstep_len.2]
    unfold HS.dm
    rw [devMove_len.2]
  · show s.ms.2.1.length = _
    unfold HS.ms
    rw [mstep_len.1]
    unfold HS.dm
    rw [devMove_len.1, askAll_len]
theorem after_len (s : HS) : ∀ n, (s.after n).ws.length = s.ws.length ∧ (s.after n).ks.length = s.ks.length
  | 0 => ⟨rfl, rfl⟩
  | n + 1 => by
    obtain ⟨h1, h2⟩ := after_len s n
    have h := next_len (s := s.after n)
    exact ⟨h.1.trans h1, h.2.trans h2⟩
theorem sm_shown {s : HS} (O : HOk s) (w : s.ws.length ≤ 32) : Sm (dSh s) := sm_dSh (by rw [O.m.c4]; decide) (by omega) (by rw [O.m.m3]; decide) (by have := goFrom_len 0 s.ks; have := O.l6; omega)
section
variable {K : PySem.W.Frag} {H H' : Hp} {d sl : Addr} {f p : Int} {cs : List Int}
theorem DiceAt.ext (D : DiceAt H d sl f p cs) (x : ExtN H H') : DiceAt H' d sl f p cs := ⟨x _ _ D.ob nt_lst, x _ _ D.ls nt_lst, D.f0, D.f1, D.p0, D.ne⟩
theorem TupsAt.ext {D : Addr} {ps : List Addr} {vss : List (List V)} (h : TupsAt H D ps vss) (x : ExtN H H') : TupsAt H' D ps vss := ⟨x _ _ h.lst nt_lst, h.len, fun j q us e1 e2 => x _ _ (h.at_ j q us e1 e2) nt_tup⟩
theorem TupsAt.kept {D : Addr} {ps : List Addr} {vss : List (List V)} {as : List Addr} (h : TupsAt H D ps vss) (k : Kept as H H') (hD : D ∉ as) (hn : ∀ b ∈ as, ∃ u, H b = some u ∧ notTup u = true) : TupsAt H' D ps vss := ⟨k _ _ h.lst hD, h.len, fun j q us e1 e2 => k _ _ (h.at_ j q us e1 e2) (fun z => by
  obtain ⟨u, hu, nt⟩ := hn q z
  rw [h.at_ j q us e1 e2] at hu
  cases hu
  cases nt)⟩
def oDt : Option Int → PyData
  | none => .none
  | some i => .int i
def dWk (k : Wk) : PyData := .tuple [.int k.begin, .int k.goal, .int k.many, .int k.block, .str k.greed, oDt k.mark, oDt k.follow]
def dAk (a : Int × Int) : PyData := .tuple [.int a.1, .int a.2]
theorem dp_oV (o : Option Int) : Dp K H (oV o) (oDt o) := by
  cases o with
  | none => exact .non
  | some i => exact .int i
theorem TupsAt.dpW {wl : Addr} {ts : List Addr} {ks : List Wk} (t : TupsAt H wl ts (ks.map Wk.vs)) {l : Addr} (hl : H l = some (.lst (ts.map V.ref))) : Dp K H (.ref l) (.list (ks.map dWk)) := by
  refine .lst (SqL.of hl) (dpAll_of ts ks (by rw [t.len, List.length_map]) (fun j p e h1 h2 => ?_))
  have h3 := t.at_ j p e.vs h1 (by rw [List.getElem?_map, h2]; rfl)
  exact .tup (SqT.of h3) (.cons (.int _) (.cons (.int _) (.cons (.int _) (.cons (.int _) (.cons (.str _) (.cons (dp_oV _) (.cons (dp_oV _) .nil)))))))
theorem TupsAt.dpA {al : Addr} {qs : List Addr} {as : List (Int × Int)} (t : TupsAt H al qs (as.map puV)) {l : Addr} (hl : H l = some (.lst (qs.map V.ref))) : Dp K H (.ref l) (.list (as.map dAk)) := by
  refine .lst (SqL.of hl) (dpAll_of qs as (by rw [t.len, List.length_map]) (fun j p e h1 h2 => ?_))
  have h3 := t.at_ j p (puV e) h1 (by rw [List.getElem?_map, h2]; rfl)
  exact .tup (SqT.of h3) (.cons (.int _) (.cons (.int _) .nil))
theorem dWk_lay {k : Wk} (h : k.greed = "all" ∨ k.greed = "turn" ∨ k.greed = "idle") : PyData.canLay0 (dWk k) = true := by
  unfold dWk
  rcases h with h | h | h <;> rw [h] <;> cases k.mark <;> cases k.follow <;> kernel_rfl
theorem dWk_deep (k : Wk) : PyData.depth (dWk k) ≤ 1 := by
  unfold dWk
  cases k.mark <;> cases k.follow <;> exact Nat.le_refl _
def dHd (ks : List Wk) (ws : List Int) (as : List (Int × Int)) : PyData := .tuple [.list (ks.map dWk), .list (pyInts ws), .list (as.map dAk)]
theorem dHd_shaped {ks : List Wk} (ws : List Int) (as : List (Int × Int)) (h : ∀ k ∈ ks, k.greed = "all" ∨ k.greed = "turn" ∨ k.greed = "idle") : SeqAt.shaped (dHd ks ws as) = true := by
  have h1 := lay_all (f := dWk) ks (fun x hx => dWk_lay (h x hx))
  have h2 := deep_all (f := dWk) (n := 1) dWk_deep ks
  have g1 := lay_all (f := dAk) as (fun x _ => rfl)
  have g2 := deep_all (f := dAk) (n := 1) (fun x => Nat.le_refl _) as
  have w1 := canLay_ints ws
  have w2 := depth_ints ws
  show ((PyData.canLayAll0 (ks.map dWk) && (PyData.canLayAll0 (pyInts ws) && (PyData.canLayAll0 (as.map dAk) && true))) && decide (max (PyData.depthAll (ks.map dWk) + 1) (max (PyData.depthAll (pyInts ws) + 1) (max (PyData.depthAll (as.map dAk) + 1) 0)) + 1 ≤ 64)) = true
  rw [h1, g1, w1, decide_eq_true (by omega)]
  rfl
end
theorem walk_ofTE {l : PySem.W.OpenLaw} {n k : Nat} {q : Program} {loose : List Str} {XP : (Str → Option Value) → Heap → Prop} {YP : World → Heap → Prop} {dr : DefRec} {x : Str} (h1 : l.most = some n) (h2 : n ≤ sizeLine) (h3 : dr.params.defaults = []) (h4 : Room k callerA)
    (hF : ∀ (w : World) (mg : Str → Option Value) (fa : Addr) (hp : Heap), YP w hp → hp.Ns mainGlobals mg → mg dr.name = some (.ref fa) → ∃ K : PySem.W.Frag, K.In hp ∧ LawAtS l w K CX0 k n x mg fa hp) : PySem.W.WalkO q loose XP YP l.row.toRowW dr [] (fun f vs => PySem.call f vs) := by
  refine Att.attach_callB h1 h3 ?_
  intro w s₀ s₁ mg mb fa o pm cd doc a vs ns G Y _ _ _ hmg hob hin hle hbi hge
  obtain ⟨K, KX, fd, cs, sp, a1, a2, a3, a4, a5, a6⟩ := hF w mg fa _ Y G.T.g hmg
  refine law_callTs KX G.T.g G.T.b G.T.builtins G.T.nolimit hge a1 a2 a3 G.T.bmain hob hin (Nat.le_trans hle h2) h4 a6 a4 (fun H hH hS => a5 H a ns hle hbi hH hS) ?_
  exact fun _ _ _ z => z
end SB

set_option Elab.async false
set_option linter.all false
set_option maxRecDepth 100000
set_option maxHeartbeats 2000000
namespace SB
open PySem L2
section
variable {P : Program} {w : World} {K : PySem.W.Frag} {mg : Str → Option Value} {base : Heap}
theorem DiceAt.ned {H : Hp} {d sl : Addr} {f p : Int} {cs : List Int} (D : DiceAt H d sl f p cs) {y : Addr} (hy : H y = none) : y ∉ [d, sl] := by
  have a1 : y ≠ d := ne_of_none' D.ob hy
  have a2 : y ≠ sl := ne_of_none' D.ls hy
  simp [a1, a2]
theorem pick2 {H : Hp} {d sl : Addr} {f p : Int} {cs : List Int} {x y : Int} {σ : L2.St} {i : Nat} {Q : VK} (hσ : σ[i]? = some (some (.ref d))) (D : DiceAt H d sl f p cs) (c63 : cs.length ≤ 63) (x0 : 0 < x) (x1 : x < 1073741824) (y0 : 0 < y) (y1 : y < 1073741824)
    (q : ∀ H' f' p' cs' v, DiceAt H' d sl f' p' cs' → cs'.length = cs.length → Kept [d, sl] H H' → 0 ≤ v → (v < x ∨ v < y) → Q (.int v) H') :
    tCallR (sp_l_off K) (tCons (tVar i) (tCons (tOp (rIxL K) (tLst (tCons (tC (.int x)) (tCons (tC (.int y)) tNil))) (tCallR (sp_l_off K) (tCons (tVar i) (tCons (tC (.int 2)) tNil)))) tNil)) σ H Q := by
  refine ⟨_, hσ, by show 2 ≤ sizeLine; decide, fun b hb => ?_⟩
  have s1 : Same H (upd H b (.lst [.int x, .int y])) := Same.new (Same.refl H) hb
  refine ⟨_, hσ, d, sl, f, p, cs, 2, rfl, D.same s1, c63, by decide, by decide, fun H2 f2 p2 cs2 v D2 c2 k2 v0 v1 => ?_⟩
  have kb : H2 b = some (.lst [.int x, .int y]) := k2 _ _ upd_same (D.ned hb)
  obtain ⟨m, hm, m0, m1, mx⟩ : ∃ m : Int, atI ([.int x, .int y] : List V) v = some (.int m) ∧ 0 < m ∧ m < 1073741824 ∧ (m = x ∨ m = y) := by
    have : v = 0 ∨ v = 1 := by omega
    rcases this with rfl | rfl
    · exact ⟨x, rfl, x0, x1, .inl rfl⟩
    · exact ⟨y, rfl, y0, y1, .inr rfl⟩
  refine ⟨_, _, _, _, rfl, rfl, SqL.of kb, hm, ?_⟩
  refine ⟨d, sl, f2, p2, cs2, m, rfl, D2, by omega, m0, m1, fun H3 f3 p3 cs3 n D3 c3 k3 n0 n1 => ?_⟩
  exact q H3 f3 p3 cs3 n D3 (by omega) (((Kept.same s1).trans k2).trans k3) n0 (by rcases mx with e | e <;> rw [← e] <;> first | exact .inl n1 | exact .inr n1)
def sp_l_work (K : PySem.W.Frag) : Sp := fun vs H Q _ => ∃ (d sl : Addr) (f p : Int) (cs : List Int) (many : Int), vs = [.ref d, .int many] ∧ DiceAt H d sl f p cs ∧ cs.length ≤ 63 ∧ 1 ≤ many ∧ many ≤ 6 ∧
  ∀ H' f' p' cs' t k, DiceAt H' d sl f' p' cs' → cs'.length = cs.length → Kept [d, sl] H H' → H t = none → H' t = some (.tup k.vs) → WOk many.toNat k → Q (.ref t) H'
theorem ok_l_work (T : T w K mg) : FnR P w K mg base CX0 2 (He.ga K "_law_work") (sp_l_work K) := by
  have F_l_off : FnR P w K mg base CX0 1 _ _ := ok_l_off T
  obtain ⟨fd, F⟩ := T.f_l_work
  refine F.r sc_l_work (fun _ _ _ _ _ _ us hl => match us, hl with | [_, _], _ => rfl) (fun vs H Q E h => ?_) (fun cdv A outer s H vs Q E hr h => ?_)
  · obtain ⟨_, _, _, _, _, _, rfl, _⟩ := h
    rfl
  · obtain ⟨d, sl, f, p, cs, many, rfl, D, c63, m1, m6, q⟩ := h
    refine ⟨_, (pss_cons (ps_par rfl sc_l_work.nd (i := 2) (j := 3) rfl rfl (by decide) rfl rfl (pa_cons (pe_callR F_l_off (hr.mono (by decide)) rfl T.g_l_off T.k_l_off (pa_cons (pv 0) (pa_cons pe_int pa_nil))) (pa_cons (pe_callR F_l_off (hr.mono (by decide)) rfl T.g_l_off T.k_l_off (pa_cons (pv 0) (pa_cons (pv 1) pa_nil))) pa_nil)) rfl)
  (pss_cons (ps_par rfl sc_l_work.nd (i := 4) (j := 5) rfl rfl (by decide) rfl rfl (pa_cons (pe_cmpR op_eq (pe_callR F_l_off (hr.mono (by decide)) rfl T.g_l_off T.k_l_off (pa_cons (pv 0) (pa_cons pe_int pa_nil))) pe_int (nomark _)) (pa_cons (pe_cmpR op_eq (pe_callR F_l_off (hr.mono (by decide)) rfl T.g_l_off T.k_l_off (pa_cons (pv 0) (pa_cons pe_int pa_nil))) pe_int (nomark _)) pa_nil)) rfl)
  (pss_cons (ps_set (i := 6) sc_l_work.nd rfl (Or.inl rfl) (pe_op op_add pe_int (pe_callR F_l_off (hr.mono (by decide)) rfl T.g_l_off T.k_l_off (pa_cons (pv 0) (pa_cons (pe_ix ix_list (pe_lst (pa_cons pe_int (pa_cons pe_int pa_nil))) (pe_callR F_l_off (hr.mono (by decide)) rfl T.g_l_off T.k_l_off (pa_cons (pv 0) (pa_cons pe_int pa_nil))) (fun _ _ => rfl)) pa_nil)))))
  (pss_cons (ps_set (i := 7) sc_l_work.nd rfl (Or.inl rfl) (pe_ix ix_list (pe_lst (pa_cons pe_str (pa_cons pe_str (pa_cons pe_str (pa_cons pe_str pa_nil))))) (pe_callR F_l_off (hr.mono (by decide)) rfl T.g_l_off T.k_l_off (pa_cons (pv 0) (pa_cons pe_int pa_nil))) (fun _ _ => rfl)))
  (pss_cons (ps_asg (pe_lc (own := [("_law_k", 10)]) (g := gName 10) (tt := tYes) (te := tCallR (sp_l_off K) (tCons (tVar 0) (tCons (tOp (rIxL K) (tLst (tCons (tC (.int 8)) (tCons (tC (.int 32)) tNil))) (tCallR (sp_l_off K) (tCons (tVar 0) (tCons (tC (.int 2)) tNil)))) tNil))) rfl sc_l_work.nd (pi_range1 rfl T.u_range (pa_cons pe_int pa_nil))
      (blkOk_by (N := ["_law_d", "_law_many", "_law_mark", "_law_follow", "_law_has_mark", "_law_has_next", "_law_size", "_law_greed", "_law_begin", "_law_goal", "_law_k"]) (sc := defScope s_l_work) (by decide +kernel)) (fun _ _ _ _ _ => pg_name (i := 10) sc_l_work.nd rfl (Or.inl rfl)) (fun _ _ _ _ _ => pts_nil)
      (fun _ _ _ _ _ => pe_callR F_l_off (hr.mono (by decide)) rfl T.g_l_off T.k_l_off (pa_cons (pv 0) (pa_cons (pe_ix ix_list (pe_lst (pa_cons pe_int (pa_cons pe_int pa_nil))) (pe_callR F_l_off (hr.mono (by decide)) rfl T.g_l_off T.k_l_off (pa_cons (pv 0) (pa_cons pe_int pa_nil))) (fun _ _ => rfl)) pa_nil))))
    (pg_lst rfl (pgs_cons (pg_name (i := 8) sc_l_work.nd rfl (Or.inl rfl)) (pgs_cons (pg_name (i := 9) sc_l_work.nd rfl (Or.inl rfl)) pgs_nil))))
  (pss_one (ps_ret (pe_tup (pa_cons (pv 8) (pa_cons (pv 9) (pa_cons (pv 6) (pa_cons (pe_op op_add pe_int (pe_callR F_l_off (hr.mono (by decide)) rfl T.g_l_off T.k_l_off (pa_cons (pv 0) (pa_cons pe_int pa_nil)))) (pa_cons (pv 7) (pa_cons (pe_ifExp (pt_val (pv 4)) (pv 2) pe_non) (pa_cons (pe_ifExp (pt_val (pv 5)) (pv 3) pe_non) pa_nil))))))))))))))), ?_⟩
    refine ⟨_, rfl, d, sl, f, p, cs, 3, rfl, D, c63, by decide, by decide, fun H1 f1 p1 cs1 mk D1 c1 k1 mk0 mk1 => ?_⟩
    refine ⟨_, rfl, _, rfl, d, sl, f1, p1, cs1, many, rfl, D1, by omega, by omega, by omega, fun H2 f2 p2 cs2 fo D2 c2 k2 fo0 fo1 => ?_⟩
    refine ⟨_, _, rfl, ?_⟩
    refine ⟨_, rfl, d, sl, f2, p2, cs2, 2, rfl, D2, by omega, by decide, by decide, fun H3 f3 p3 cs3 hm0 D3 c3 k3 _ _ => ?_⟩
    refine ⟨rfl, ?_⟩
    refine ⟨_, rfl, d, sl, f3, p3, cs3, 3, rfl, D3, by omega, by decide, by decide, fun H4 f4 p4 cs4 hn0 D4 c4 k4 _ _ => ?_⟩
    refine ⟨rfl, ?_⟩
    refine ⟨_, _, rfl, ?_⟩
    generalize decide (V.int hm0 = V.int 0) = hm
    generalize decide (V.int hn0 = V.int 0) = hn
    have kk4 := ((k1.trans k2).trans k3).trans k4
    refine pick2 (i := 0) rfl D4 (by omega) (by decide) (by decide) (by decide) (by decide) (fun H5 f5 p5 cs5 sz D5 c5 k5 sz0 sz1 => ?_)
    refine ⟨_, _, rfl, rfl, ?_⟩
    refine ⟨by show 4 ≤ sizeLine; decide, fun e he => ?_⟩
    have s6 : Same H5 (upd H5 e (.lst [.str "all", .str "turn", .str "idle", .str "turn"])) := Same.new (Same.refl _) he
    have e6 : upd H5 e (.lst [.str "all", .str "turn", .str "idle", .str "turn"]) e = some (.lst [.str "all", .str "turn", .str "idle", .str "turn"]) := upd_same
    have ne := D5.ned he
    have D6 := D5.same s6
    generalize upd H5 e (.lst [.str "all", .str "turn", .str "idle", .str "turn"]) = H6 at s6 e6 D6
    refine ⟨_, rfl, d, sl, f5, p5, cs5, 4, rfl, D6, by omega, by decide, by decide, fun H7 f7 p7 cs7 g0 D7 c7 k7 g00 g01 => ?_⟩
    obtain ⟨gr, hgr, grok⟩ : ∃ gr : Str, atI ([.str "all", .str "turn", .str "idle", .str "turn"] : List V) g0 = some (.str gr) ∧ (gr = "all" ∨ gr = "turn" ∨ gr = "idle") := by
      have : g0 = 0 ∨ g0 = 1 ∨ g0 = 2 ∨ g0 = 3 := by omega
      rcases this with rfl | rfl | rfl | rfl
      · exact ⟨_, rfl, .inl rfl⟩
      · exact ⟨_, rfl, .inr (.inl rfl)⟩
      · exact ⟨_, rfl, .inr (.inr rfl)⟩
      · exact ⟨_, rfl, .inr (.inl rfl)⟩
    refine ⟨_, _, _, _, rfl, rfl, SqL.of (k7 _ _ e6 ne), hgr, ?_⟩
    have kk7 : Kept [d, sl] H H7 := ((kk4.trans k5).trans (Kept.same s6)).trans k7
    refine ⟨2, rfl, by decide, by decide, fun R hR => ?_⟩
    have nR := D7.ned hR
    have hR0 : H R = none := kk7.free hR nR
    have sR : Same H7 (upd H7 R (.lst [])) := Same.new (Same.refl _) hR
    refine lc_it walk_range (fun i H4 => ∃ (f4 p4 : Int) (cs4 ws : List Int), DiceAt H4 d sl f4 p4 cs4 ∧ cs4.length = cs.length ∧ Kept [d, sl] H H4 ∧ H4 R = some (.lst (ws.map V.int)) ∧ ws.length = i ∧ ∀ x ∈ ws, rg 0 31 x)
      ⟨f7, p7, cs7, [], D7.same sR, by omega, kk7.new hR0, upd_same, rfl, by simp⟩ (fun i H4 _ _ => trivial) ?_ ?_
    · rintro i x H8 H9 hi ⟨f4, p4, cs4, ws, D8, c8, k8, hR4, hl, hx⟩ ⟨rfl, rfl⟩
      refine ⟨rfl, yes ?_⟩
      refine pick2 (i := 0) rfl D8 (by omega) (by decide) (by decide) (by decide) (by decide) (fun H10 f10 p10 cs10 v D10 c10 k10 v0 v1 => ?_)
      have hR6 := k10 _ _ hR4 nR
      have Rd : R ≠ d := fun z => nR (by simp [z])
      have Rs : R ≠ sl := fun z => nR (by simp [z])
      refine ⟨_, hR6, by rw [List.length_map, hl]; exact Nat.lt_of_lt_of_le hi (by decide), f10, p10, cs10, ws ++ [v], ?_, by omega, (k8.trans k10).new hR0, ?_, by simp [hl], ?_⟩
      · exact ⟨by rw [upd_ne (Ne.symm Rd)]; exact D10.ob, by rw [upd_ne (Ne.symm Rs)]; exact D10.ls, D10.f0, D10.f1, D10.p0, D10.ne⟩
      · rw [upd_same, List.map_append]
        rfl
      · intro y hy
        rcases List.mem_append.mp hy with hy | hy
        · exact hx y hy
        · have e : y = v := by simpa using hy
          rw [e]
          exact ⟨v0, by rcases v1 with z | z <;> omega⟩
    · rintro H8 ⟨f8, p8, cs8, ws, D8, c8, k8, hR8, hl, hx⟩
      obtain ⟨b, g, rfl⟩ : ∃ b g, ws = [b, g] := match ws, hl with | [b, g], _ => ⟨b, g, rfl⟩
      refine ⟨R, _, rfl, SqL.of hR8, rfl, _, _, rfl, _, _, rfl, rfl, ?_⟩
      refine ⟨_, rfl, _, rfl, _, rfl, ?_⟩
      refine ⟨_, rfl, d, sl, f8, p8, cs8, 4, rfl, D8, by omega, by decide, by decide, fun H9 f9 p9 cs9 c0 D9 c9 k9 c00 c01 => ?_⟩
      refine ⟨_, _, rfl, rfl, ?_⟩
      refine ⟨_, rfl, ?_⟩
      have fin : ∀ (mk' fo' : Option Int), (∀ x, mk' = some x → rg 0 2 x) → (∀ x, fo' = some x → 0 ≤ x ∧ x < many) → ∀ t, H9 t = none → Q (.ref t) (upd H9 t (.tup [.int b, .int g, .int (1 + sz), .int (1 + c0), .str gr, oV mk', oV fo'])) := by
        intro mk' fo' hmk hfo t ht
        have kk9 := k8.trans k9
        have ht0 : H t = none := kk9.free ht (D9.ned ht)
        have st : Same H9 (upd H9 t (.tup [.int b, .int g, .int (1 + sz), .int (1 + c0), .str gr, oV mk', oV fo'])) := Same.new (Same.refl _) ht
        refine q _ f9 p9 cs9 t ⟨b, g, 1 + sz, 1 + c0, gr, mk', fo', false, 0, none⟩ (D9.same st) (by omega) (kk9.trans (Kept.same st)) ht0 upd_same ⟨hx b (by simp), hx g (by simp), ⟨by show 1 ≤ 1 + sz; omega, by show 1 + sz ≤ 16; rcases sz1 with z | z <;> omega⟩, ⟨by show 1 ≤ 1 + c0; omega, by show 1 + c0 ≤ 4; omega⟩, grok, hmk, fun x hx => ?_⟩
        have := hfo x hx
        exact ⟨this.1, by omega⟩
      have m2 : ∀ x, some mk = some x → rg 0 2 x := fun x hx => by cases hx; exact ⟨mk0, by omega⟩
      have f2' : ∀ x, some fo = some x → 0 ≤ x ∧ x < many := fun x hx => by cases hx; exact ⟨fo0, fo1⟩
      refine ⟨_, rfl, _, rfl, ?_⟩
      refine ite2 (fun a1 => ?_) (fun a1 => ?_)
      · refine ⟨_, rfl, _, rfl, _, rfl, ?_⟩
        refine ite2 (fun a2 => ?_) (fun a2 => ?_)
        · exact ⟨_, rfl, by show 7 ≤ sizeLine; decide, fun t ht => fin (some mk) (some fo) m2 f2' t ht⟩
        · exact ⟨by show 7 ≤ sizeLine; decide, fun t ht => fin (some mk) none m2 (fun x hx => nomatch hx) t ht⟩
      · refine ⟨_, rfl, _, rfl, ?_⟩
        refine ite2 (fun a2 => ?_) (fun a2 => ?_)
        · exact ⟨_, rfl, by show 7 ≤ sizeLine; decide, fun t ht => fin none (some fo) (fun x hx => nomatch hx) f2' t ht⟩
        · exact ⟨by show 7 ≤ sizeLine; decide, fun t ht => fin none none (fun x hx => nomatch hx) (fun x hx => nomatch hx) t ht⟩
def sp_l_works (K : PySem.W.Frag) : Sp := fun vs H Q _ => ∃ (d sl : Addr) (f p : Int) (cs : List Int) (most : Int), vs = [.ref d, .int most] ∧ DiceAt H d sl f p cs ∧ cs.length ≤ 63 ∧ 0 ≤ most ∧ most ≤ 6 ∧
  ∀ (H' : Hp) (f' p' : Int) (cs' : List Int) (wl : Addr) (ts : List Addr) (ks : List Wk), DiceAt H' d sl f' p' cs' → cs'.length = cs.length → Kept [d, sl] H H' → H wl = none → TupsAt H' wl ts (ks.map Wk.vs) → (∀ t ∈ ts, H t = none) → ks.length ≤ most.toNat → (∀ k ∈ ks, WOk ks.length k) → Q (.ref wl) H'
end
end SB

set_option Elab.async false
set_option linter.all false
set_option maxRecDepth 100000
set_option maxHeartbeats 2000000
namespace SB
open PySem L2
def av (a : Int × Int) : List V := [.int a.1, .int a.2]
theorem sort_next : ∀ {ns : List Int}, ns.Pairwise (· ≤ ·) → ∀ (i : Nat) (x y : Int), ns[i]? = some x → ns[i + 1]? = some y → x ≤ y
  | [], _, i, x, y, h, _ => by simp at h
  | a :: r, hp, 0, x, y, h1, h2 => by
    have e : a = x := by simpa using h1
    have h2' : r[0]? = some y := by simpa using h2
    rw [← e]
    exact (List.pairwise_cons.mp hp).1 y (List.mem_of_getElem? h2')
  | a :: r, hp, i + 1, x, y, h1, h2 => sort_next (List.pairwise_cons.mp hp).2 i x y (by simpa using h1) (by simpa using h2)
section
variable {P : Program} {w : World} {K : PySem.W.Frag} {mg : Str → Option Value} {base : Heap}
def sp_l_asked (K : PySem.W.Frag) : Sp := fun vs H Q _ => ∃ (d sl : Addr) (f p : Int) (cs : List Int) (many : Int), vs = [.ref d, .int many] ∧ DiceAt H d sl f p cs ∧ cs.length ≤ 63 ∧ 0 ≤ many ∧ many ≤ 6 ∧
  ∀ (H' : Hp) (f' p' : Int) (cs' : List Int) (al : Addr) (qs : List Addr) (as : List (Int × Int)), DiceAt H' d sl f' p' cs' → cs'.length = cs.length → Kept [d, sl] H H' → H al = none → TupsAt H' al qs (as.map av) → AOk many.toNat as → Q (.ref al) H'
end
end SB

set_option Elab.async false
set_option linter.all false
set_option maxRecDepth 100000
namespace L2
open PySem PySem.Spec PyProof.Rows
section
variable {prog : Program} {w : World} {A : Around} {E : Value → Shared → Prop}
theorem call_upd_list {s : Shared} {d l : Addr} {ol : Obj} {items : Array Value} {n : Nat} {acc prs : List (Key × Value)} {Q : Value → Shared → Prop} (hh : A.handled = none) (hm : s.heap.DictOf (mixKind prog w) d acc) (hl : s.heap.get? l = some ol) (hc : ol.cls = .type "list") (hd : ol.dict = none)
    (hdat : ol.data = .seq items n) (hsz : items.size = prs.length) (hln : acc.length + prs.length ≤ sizeLine) (hdl : d ≠ l)
    (ht : ∀ (j : Nat) (q : Key × Value), prs[j]? = some q → ∃ (b : Addr) (u : Value), items[j]? = some (.ref b) ∧ b ≠ d ∧ IsTup s.heap b #[u, q.2] ∧ keyIs q.1 u = true)
    (h : ∀ h' tk, h'.DictOf (mixKind prog w) d (merged acc prs) → (∀ b o, b ≠ d → s.heap.get? b = some o → h'.get? b = some o) → Q .none { s with heap := h', toks := tk }) :
    wpAny (model prog w) A (call (.builtin "dict.update") [.ref d, .ref l]) Q E s := by
  refine call_meetsIn F.slot_dict_update hm.typeIs F.entry_dict_update (F.args_dict_update_2 _ _)
    (S := fun A' R s' => A' = A ∧ s' = s ∧ ∀ h' tk, h'.DictOf (mixKind prog w) d (merged acc prs) → (∀ b o, b ≠ d → s.heap.get? b = some o → h'.get? b = some o) → R (.ok (.ret .none)) { s with heap := h', toks := tk })
    (fun A' R s' hS => ?_) ⟨rfl, rfl, h⟩
  obtain ⟨rfl, rfl, hq⟩ := hS
  refine meets_dict_update_arg hm.typeIs ?_
  unfold Builtin.Dict.updateFrom
  refine wpAny_bind (wpAny_typeOf (T := "list") ⟨ol, hl, hc⟩ ?_)
  rw [if_pos (by first | decide | rfl | simp)]
  refine wpAny_bind (miss_list hl hc hdat hd hh fun h1 tk1 hk1 => ?_)
  rw [if_pos (show (none : Option Value).isNone = true from rfl)]
  refine wpAny_bind (wpAny_rule ?_)
  have hl1 : h1.IsList l items := ⟨ol, hk1 _ _ hl, hc, n, hdat⟩
  have hlt : l < h1.objs.size := Heap.lt_size (hk1 _ _ hl)
  have hdt : d < h1.objs.size := by
    obtain ⟨q, _, _, hq', _⟩ := hm
    exact Heap.lt_size (hk1 _ _ hq')
  refine wpAny_bind (wpAny_pyIter_list hl1 ?_)
  have k2 : ∀ b o, h1.get? b = some o → (h1.push { cls := .type "list_iterator", data := .fields #[.ref l, .int 0 0] }).get? b = some o := fun b o e => Heap.get?_push_of_some _ e
  have key := upd_loop (prog := prog) (w := w) (A := A') (R := R) (S := d) (I := h1.objs.size) (l := l) (items := items) (res := Value.none) hh
    (Nat.ne_of_lt hlt) (Nat.ne_of_lt hdt) hdl prs 0 acc 0 0
    { s' with heap := h1.push { cls := .type "list_iterator", data := .fields #[.ref l, .int 0 0] }, toks := tk1 } (by rw [hsz, Nat.zero_add]) hln
    (fun j q e => by
      obtain ⟨b, u, e1, e0, e2, e3⟩ := ht j q e
      have e2' : IsTup h1 b #[u, q.2] := e2.keeps fun c o z => hk1 _ _ z
      exact ⟨b, u, by rw [Nat.zero_add]; exact e1, e0, Nat.ne_of_lt e2'.lt, e2'.keeps fun c o z => k2 _ _ z, e3⟩)
    ⟨_, Heap.get?_push_size _ rfl, rfl, rfl⟩ (hl1.at fun o e => k2 _ _ e) ((hm.at fun o e => hk1 _ _ e).at fun o e => k2 _ _ e)
    (fun h' tk hd' k => hq h' tk hd' fun b o hb e => k b o hb (Nat.ne_of_lt (Heap.lt_size (hk1 _ _ e))) (k2 _ _ (hk1 _ _ e)))
  first
    | exact wpAny_pure ⟨plainId_quiet ud_plain _, key⟩
    | exact wpAny_bind (wpAny_pure (wpAny_pure ⟨plainId_quiet ud_plain _, key⟩))
end
section
variable {X : Cx}
def rUpdP (K : PySem.W.Frag) : V → List V → Hp → VK → Prop := fun x vs H Q => ∃ (a l : Addr) (ps : List Addr) (kvs kvs' : List (Key × V)), x = .ref a ∧ vs = [.ref l] ∧ H a = some (.dK kvs) ∧ H l = some (.lst (ps.map V.ref)) ∧ Paired (fun p kv => H p = some (.tup [kV kv.1, kv.2])) ps kvs' ∧ kvs.length + kvs'.length ≤ sizeLine ∧
  Q .non (upd H a (.dK (mergeK kvs kvs')))
theorem paired_sq {H : Hp} : ∀ {ps : List Addr} {kvs : List (Key × V)}, Paired (fun p kv => H p = some (.tup [kV kv.1, kv.2])) ps kvs → Paired (fun p kv => SqT X.K H p [kV kv.1, kv.2]) ps kvs
  | _, _, .nil => .nil
  | _, _, .cons h t => .cons (SqT.of h) (paired_sq t)
theorem paired_ne {H : Hp} {a : Addr} {kvs0 : List (Key × V)} (ha : H a = some (.dK kvs0)) : ∀ {ps : List Addr} {kvs : List (Key × V)}, Paired (fun p kv => H p = some (.tup [kV kv.1, kv.2])) ps kvs → ∀ (j : Nat) (b : Addr), ps[j]? = some b → b ≠ a
  | _, _, .nil, j, b, e => by simp at e
  | _, _, .cons h t, 0, b, e => by
    cases e
    exact ne_of h ha (by intro z; cases z)
  | _, _, .cons h t, j + 1, b, e => paired_ne ha t j b (by simpa using e)
theorem mt_updP (hcalm : X.calm = true) : MtM X "dict.update" (rUpdP X.K) := by
  intro pins s σ H x vs v us Q I rx rv h
  obtain ⟨a, l, ps, kvs, kvs', rfl, rfl, hH, hq, hp, hz, q⟩ := h
  cases rx
  obtain ⟨u, rfl, ru⟩ := rv.one
  cases ru
  obtain ⟨its, rv', pl, hzl⟩ := I.list (SqL.of hq)
  have ei := refs_at rv'
  subst ei
  obtain ⟨prs, rel, hl, hpr⟩ := pairs_of I (paired_sq (X := X) hp)
  obtain ⟨o, n, ho, hc, hd, hdat⟩ := pl
  obtain ⟨z, hsm, vs0, r0, dd⟩ := dk_of I.hok hH
  have hal : a ≠ l := ne_of hH hq (by intro z; cases z)
  have el : kvs'.length = prs.length := rel.length
  refine call_upd_list (prs := prs) (I.ok.hd hcalm) dd ho hc hd hdat (by simp [hl]) (by rw [← r0.length, ← el]; exact hz) hal (fun j q' e => ?_) fun h' tk hd' k => ?_
  · obtain ⟨b, u, e1, e2, e3⟩ := hpr j q' e
    exact ⟨b, u, by simp [e1], paired_ne hH hp j b e1, e2, e3⟩
  · have hlen : (mergeK kvs kvs').length ≤ sizeLine := Nat.le_trans (length_mergeK kvs' kvs) (by omega)
    have he : ∃ q, h'.get? a = some q := let ⟨q, _, _, hq, _⟩ := hd'; ⟨q, hq⟩
    exact ⟨.non, _, I.write (t' := tk) (x := a) (e := a) (by rw [hH]; exact True.intro) (.inl rfl) k he (dk_new hlen hsm (KV.merge rel r0) hd'), rfl, q⟩
end
end L2

set_option Elab.async false
set_option linter.all false
set_option maxRecDepth 100000
set_option maxHeartbeats 4000000
namespace SB
open PySem L2
inductive Kd where
  | set | add | less | get | getx | put | putx | pair | lay | ask | done | mark | clear | rest | iff | go | fin
abbrev Kd.str : Kd → Str
  | .set => "set" | .add => "add" | .less => "less" | .get => "get" | .getx => "getx" | .put => "put" | .putx => "putx" | .pair => "pair" | .lay => "lay" | .ask => "ask" | .done => "done" | .mark => "mark"
  | .clear => "clear" | .rest => "rest" | .iff => "if" | .go => "go" | .fin => "end"
abbrev Kd.v (k : Kd) : V := .str k.str
abbrev L14 : List Kd := [.set, .add, .less, .get, .getx, .put, .putx, .pair, .pair, .lay, .ask, .ask, .done, .mark]
abbrev L8 : List Kd := [.clear, .rest, .get, .put, .set, .iff, .go, .iff]
def Lk (st : Bool) : List Kd := L14 ++ L8.take (if st = true then 5 else 8)
theorem Lk_len (st : Bool) : (Lk st).length = if st = true then 19 else 22 := by cases st <;> rfl
theorem Lk_st : ∀ k ∈ Lk true, k ≠ .go ∧ k ≠ .iff := fun k hk => by
  have h : k ∈ ([.set, .add, .less, .get, .getx, .put, .putx, .pair, .pair, .lay, .ask, .ask, .done, .mark, .clear, .rest, .get, .put, .set] : List Kd) := hk
  simp only [List.mem_cons, List.not_mem_nil, or_false] at h
  rcases h with h | h | h | h | h | h | h | h | h | h | h | h | h | h | h | h | h | h | h <;> rw [h] <;> exact ⟨Kd.noConfusion, Kd.noConfusion⟩
theorem ecut (st : Bool) : cutV (L8.map Kd.v) none (some (8 - 3 * (if st = true then 1 else 0))) = (L8.take (if st = true then 5 else 8)).map Kd.v := by
  have e : (8 - 3 * (if st = true then 1 else 0) : Int) = ((if st = true then 5 else 8 : Nat) : Int) := by cases st <;> rfl
  rw [e, cut_take, List.map_take]
section
variable {P : Program} {w : World} {K : PySem.W.Frag} {mg : Str → Option Value} {base : Heap}
def StD (H : Hp) (d sl : Addr) (n : Nat) (Hx : Hp) : Prop := ∃ f p cs, DiceAt Hx d sl f p cs ∧ cs.length = n ∧ Kept [d, sl] H Hx
theorem StD.new {H Hx : Hp} {d sl t : Addr} {n : Nat} {o : HO} (h : StD H d sl n Hx) (ht : Hx t = none) : StD H d sl n (upd Hx t o) := by
  obtain ⟨f, p, cs, D, c, k⟩ := h
  have s : Same Hx (upd Hx t o) := Same.new (Same.refl _) ht
  exact ⟨f, p, cs, D.same s, c, k.trans (Kept.same s)⟩
theorem StD.free {H Hx : Hp} {d sl t : Addr} {n : Nat} (h : StD H d sl n Hx) (ht : Hx t = none) : H t = none := by
  obtain ⟨f, p, cs, D, c, k⟩ := h
  exact k.free ht (D.ned ht)
theorem StD.off {H Hx : Hp} {d sl : Addr} {n : Nat} {σ : L2.St} {i : Nat} {ta : TE} {m : Int} {Q : VK} (h : StD H d sl n Hx) (n63 : n ≤ 63) (hσ : σ[i]? = some (some (.ref d))) (ha : ∀ Q2 : VK, Q2 (.int m) Hx → ta σ Hx Q2) (m0 : 0 < m) (m1 : m < 1073741824)
    (q : ∀ Hy v, StD H d sl n Hy → Kept [d, sl] Hx Hy → 0 ≤ v → v < m → Q (.int v) Hy) : tCallR (sp_l_off K) (tCons (tVar i) (tCons ta tNil)) σ Hx Q := by
  obtain ⟨f, p, cs, D, c, k⟩ := h
  refine ⟨_, hσ, ha _ ?_⟩
  exact ⟨d, sl, f, p, cs, m, rfl, D, by omega, m0, m1, fun H2 f2 p2 cs2 v D2 c2 k2 v0 v1 => q H2 v ⟨f2, p2, cs2, D2, by omega, k.trans k2⟩ k2 v0 v1⟩
theorem t_in {σ : L2.St} {H : Hp} {z : Str} {ys : List V} {ta : TA} {Q : Bool → Hp → Prop} (b : Bool) (hσ : σ[4]? = some (some (.str z))) (ha : ∀ Q2 : List V → Hp → Prop, ta σ H Q2 = Q2 ys H) (hl : ys.length ≤ sizeLine) (hf : ys.all flatV = true) (hb : inV (.str z) ys = b)
    (q : ∀ t, H t = none → Q b (upd H t (.tup ys))) : tTest (tOp (rIn K false) (tVar 4) (tTup ta)) σ H Q := by
  refine ⟨_, hσ, ?_⟩
  show ta σ H _
  rw [ha]
  refine ⟨hl, fun t ht => ⟨t, ys, rfl, .inr (SqT.of upd_same), rfl, hf, _, rfl, ?_⟩⟩
  show Q (inV (.str z) ys) _
  rw [hb]
  exact q t ht
theorem StD.tk {H Hx Hy : Hp} {d sl : Addr} {n : Nat} (h : StD H d sl n Hx) (k : Kept [d, sl] Hx Hy) : Tk Hx Hy := by
  obtain ⟨f, p, cs, D, c, _⟩ := h
  refine Tk.of k (fun b hb => ?_)
  have e : b = d ∨ b = sl := by simpa using hb
  rcases e with rfl | rfl
  · exact ⟨_, D.ob, rfl⟩
  · exact ⟨_, D.ls, rfl⟩
theorem StD.nin {H Hx : Hp} {d sl : Addr} {n : Nat} (h : StD H d sl n Hx) {y : Addr} (hy : Hx y = none) : y ∉ [d, sl] := by
  obtain ⟨f, p, cs, D, c, _⟩ := h
  exact D.ned hy
theorem StD.pick {H Hx : Hp} {d sl : Addr} {n : Nat} {σ : L2.St} {i : Nat} {x y : Int} {Q : VK} (h : StD H d sl n Hx) (n63 : n ≤ 63) (hσ : σ[i]? = some (some (.ref d))) (x0 : 0 < x) (x1 : x < 1073741824) (y0 : 0 < y) (y1 : y < 1073741824)
    (q : ∀ Hy v, StD H d sl n Hy → Kept [d, sl] Hx Hy → 0 ≤ v → (v < x ∨ v < y) → Q (.int v) Hy) :
    tCallR (sp_l_off K) (tCons (tVar i) (tCons (tOp (rIxL K) (tLst (tCons (tC (.int x)) (tCons (tC (.int y)) tNil))) (tCallR (sp_l_off K) (tCons (tVar i) (tCons (tC (.int 2)) tNil)))) tNil)) σ Hx Q := by
  obtain ⟨f, p, cs, D, c, k⟩ := h
  exact pick2 hσ D (by omega) x0 x1 y0 y1 (fun H2 f2 p2 cs2 v D2 c2 k2 v0 v1 => q H2 v ⟨f2, p2, cs2, D2, by omega, k.trans k2⟩ k2 v0 v1)
theorem Tk.put1 {Hx Hy : Hp} {p : Addr} {o : HO} (k : Kept [p] Hx Hy) (h : Hx p = some o) (nt : notTup o = true) : Tk Hx Hy := Tk.of k (fun b hb => by
  have e : b = p := by simpa using hb
  rw [e]
  exact ⟨_, h, nt⟩)
theorem StD.putP {H Hx Hy : Hp} {d sl p : Addr} {n : Nat} (h : StD H d sl n Hx) (k : Kept [p] Hx Hy) (np : p ∉ [d, sl]) (hp : H p = none) : StD H d sl n Hy := by
  obtain ⟨f, q, cs, D, c, k0⟩ := h
  have pd : p ≠ d := fun z => np (by simp [z])
  have ps : p ≠ sl := fun z => np (by simp [z])
  refine ⟨f, q, cs, ⟨k _ _ D.ob (by simpa using Ne.symm pd), k _ _ D.ls (by simpa using Ne.symm ps), D.f0, D.f1, D.p0, D.ne⟩, c, fun b o e hb => k _ _ (k0 b o e hb) ?_⟩
  simpa using ne_of_none e hp
def sp_l_row (K : PySem.W.Frag) : Sp := fun vs H Q _ => ∃ (d sl : Addr) (f p : Int) (cs : List Int) (many : Int) (st : Bool), vs = [.ref d, .int many, .bl st] ∧ DiceAt H d sl f p cs ∧ cs.length ≤ 63 ∧ 1 ≤ many ∧ many ≤ 40 ∧
  ∀ (H' : Hp) (f' p' : Int) (cs' : List Int) (t : Addr) (r : Row), DiceAt H' d sl f' p' cs' → cs'.length = cs.length → Kept [d, sl] H H' → H t = none → H' t = some (.tup r.vs) → r.ok many.toNat → (st = true → (∀ x, r ≠ .go x) ∧ ∀ x y, r ≠ .iff x y) → Q (.ref t) H'
theorem ok_l_row (T : T w K mg) : FnR P w K mg base CX0 2 (He.ga K "_law_row") (sp_l_row K) := by
  have F_l_off : FnR P w K mg base CX0 1 _ _ := ok_l_off T
  obtain ⟨fd, F⟩ := T.f_l_row
  refine F.r sc_l_row (fun _ _ _ _ _ _ us hl => match us, hl with | [_, _, _], _ => rfl) (fun vs H Q E h => ?_) (fun cdv A outer s H vs Q E hr h => ?_)
  · obtain ⟨_, _, _, _, _, _, _, rfl, _⟩ := h
    rfl
  · obtain ⟨d, sl, f, p, cs, many, st, rfl, D, c63, m1, m40, q⟩ := h
    have hu := hr.units
    have hu1 : (A.deeper (PyProof.Rows.envOfC "_law_row" (defScope s_l_row) s.heap.objs.size (He.ga K "_law_row") cdv)).units + 1 < cLine := by omega
    refine ⟨_, (pss_cons (ps_set (i := 3) sc_l_row.nd rfl (Or.inl rfl) (pe_lst (pa_cons pe_str (pa_cons pe_str (pa_cons pe_str (pa_cons pe_str (pa_cons pe_str (pa_cons pe_str (pa_cons pe_str (pa_cons pe_str (pa_cons pe_str (pa_cons pe_str (pa_cons pe_str (pa_cons pe_str (pa_cons pe_str (pa_cons pe_str pa_nil))))))))))))))))
      (pss_cons (ps_set (i := 3) sc_l_row.nd rfl (Or.inl rfl) (pe_op op_cat (pv 3) (pe_slice sl_list (pe_lst (pa_cons pe_str (pa_cons pe_str (pa_cons pe_str (pa_cons pe_str (pa_cons pe_str (pa_cons pe_str (pa_cons pe_str (pa_cons pe_str pa_nil))))))))) po_none (po_some (pe_op op_sub pe_int (pe_op op_mul pe_int (pe_callTy call_int1 rfl T.u_int (by decide +kernel) (pa_cons (pv 2) pa_nil))))))))
      (pss_cons (ps_set (i := 4) sc_l_row.nd rfl (Or.inl rfl) (pe_ifExp (pt_cmpR op_gt (pe_callR F_l_off (hr.mono (by decide)) rfl T.g_l_off T.k_l_off (pa_cons (pv 0) (pa_cons pe_int pa_nil))) pe_int (nomark _)) (pe_ix ix_list (pv 3) (pe_callR F_l_off (hr.mono (by decide)) rfl T.g_l_off T.k_l_off (pa_cons (pv 0) (pa_cons (pe_callB call_len_seq rfl T.u_len PySem.boot_len (pa_cons (pv 3) pa_nil)) pa_nil))) (fun _ _ => rfl)) pe_str))
      (pss_cons (ps_par rfl sc_l_row.nd (i := 5) (j := 6) rfl rfl (by decide) rfl rfl (pa_cons (pe_callR F_l_off (hr.mono (by decide)) rfl T.g_l_off T.k_l_off (pa_cons (pv 0) (pa_cons pe_int pa_nil))) (pa_cons (pe_callR F_l_off (hr.mono (by decide)) rfl T.g_l_off T.k_l_off (pa_cons (pv 0) (pa_cons pe_int pa_nil))) pa_nil)) rfl)
      (pss_cons (ps_set (i := 7) sc_l_row.nd rfl (Or.inl rfl) (pe_callR F_l_off (hr.mono (by decide)) rfl T.g_l_off T.k_l_off (pa_cons (pv 0) (pa_cons (pe_ix ix_list (pe_lst (pa_cons pe_int (pa_cons pe_int pa_nil))) (pe_callR F_l_off (hr.mono (by decide)) rfl T.g_l_off T.k_l_off (pa_cons (pv 0) (pa_cons pe_int pa_nil))) (fun _ _ => rfl)) pa_nil))))
      (pss_cons (ps_if (pt_cmpR op_in_seq (pv 4) (pe_tup (pa_cons pe_str (pa_cons pe_str (pa_cons pe_str (pa_cons pe_str pa_nil))))) rfl) (pss_one (ps_ret (pe_tup (pa_cons (pv 4) (pa_cons (pv 5) (pa_cons (pv 6) pa_nil)))))) pss_nil)
      (pss_cons (ps_if (pt_cmpR op_in_seq (pv 4) (pe_tup (pa_cons pe_str (pa_cons pe_str pa_nil))) rfl) (pss_one (ps_ret (pe_ifExp (pt_cmpR op_eq (pv 4) pe_str (nomark _)) (pe_tup (pa_cons (pv 4) (pa_cons (pv 5) (pa_cons (pv 7) pa_nil)))) (pe_tup (pa_cons (pv 4) (pa_cons (pv 7) (pa_cons (pv 5) pa_nil))))))) pss_nil)
      (pss_cons (ps_if (pt_cmpR op_in_seq (pv 4) (pe_tup (pa_cons pe_str (pa_cons pe_str pa_nil))) rfl) (pss_one (ps_ret (pe_ifExp (pt_cmpR op_eq (pv 4) pe_str (nomark _)) (pe_tup (pa_cons (pv 4) (pa_cons (pe_op op_mod (pv 5) pe_int) (pa_cons (pv 7) pa_nil)))) (pe_tup (pa_cons (pv 4) (pa_cons (pv 7) (pa_cons (pe_op op_mod (pv 5) pe_int) pa_nil))))))) pss_nil)
      (pss_cons (ps_if (pt_cmpR op_in_seq (pv 4) (pe_tup (pa_cons pe_str (pa_cons pe_str pa_nil))) rfl) (pss_one (ps_ret (pe_ifExp (pt_cmpR op_eq (pv 4) pe_str (nomark _)) (pe_tup (pa_cons (pv 4) (pa_cons (pe_callR F_l_off (hr.mono (by decide)) rfl T.g_l_off T.k_l_off (pa_cons (pv 0) (pa_cons (pv 1) pa_nil))) pa_nil))) (pe_tup (pa_cons (pv 4) (pa_cons (pv 5) (pa_cons (pe_callR F_l_off (hr.mono (by decide)) rfl T.g_l_off T.k_l_off (pa_cons (pv 0) (pa_cons (pv 1) pa_nil))) pa_nil))))))) pss_nil)
      (pss_cons (ps_set (i := 8) sc_l_row.nd rfl (Or.inl rfl) (pe_disp (pps_cons pe_str (pe_tup (pa_cons (pv 5) (pa_cons (pe_callR F_l_off (hr.mono (by decide)) rfl T.g_l_off T.k_l_off (pa_cons (pv 0) (pa_cons pe_int pa_nil))) pa_nil))) (pps_cons pe_str (pe_tup (pa_cons (pe_callR F_l_off (hr.mono (by decide)) rfl T.g_l_off T.k_l_off (pa_cons (pv 0) (pa_cons pe_int pa_nil))) pa_nil)) (pps_cons pe_str (pe_tup (pa_cons (pv 5) (pa_cons (pe_callR F_l_off (hr.mono (by decide)) rfl T.g_l_off T.k_l_off (pa_cons (pv 0) (pa_cons pe_int pa_nil))) pa_nil))) (pps_cons pe_str (pe_tup pa_nil) pps_nil)))) rfl rfl (by simp) (by decide)))
      (pss_cons (ps_expr (pe_bm PySem.F.plainAttrs_dict PySem.F.slot_dict_update PySem.F.type_dict_update (mt_updP rfl) (pv 8) (pa_cons (pe_lst (pa_cons (pe_tup (pa_cons pe_str (pa_cons (pe_tup (pa_cons (pe_op op_mod (pv 5) pe_int) pa_nil)) pa_nil))) (pa_cons (pe_tup (pa_cons pe_str (pa_cons (pe_tup (pa_cons (pe_op op_mod (pv 5) pe_int) pa_nil)) pa_nil))) (pa_cons (pe_tup (pa_cons pe_str (pa_cons (pe_tup (pa_cons (pe_op op_add pe_int (pe_callR F_l_off (hr.mono (by decide)) rfl T.g_l_off T.k_l_off (pa_cons (pv 0) (pa_cons pe_int pa_nil)))) pa_nil)) pa_nil))) pa_nil)))) pa_nil)))
      (pss_one (ps_ret (pe_op op_catA (pe_tup (pa_cons (pv 4) pa_nil)) (pe_dget hu1 (pv 8) (pv 4) (fun _ _ => rfl)))))))))))))))), ?_⟩
    have S0 : StD H d sl cs.length H := ⟨f, p, cs, D, rfl, Kept.refl _ _⟩
    refine ⟨by show 14 ≤ sizeLine; decide, fun w1 hw1 => ?_⟩
    generalize hG1 : upd H w1 _ = G1
    have S1 : StD H d sl cs.length G1 := by rw [← hG1]; exact S0.new hw1
    have e1 : G1 w1 = some (.lst (L14.map Kd.v)) := by rw [← hG1]; exact upd_same
    clear hG1
    refine ⟨_, rfl, by show 8 ≤ sizeLine; decide, fun w2 hw2 => ?_⟩
    generalize hG2 : upd G1 w2 _ = G2
    have S2 : StD H d sl cs.length G2 := by rw [← hG2]; exact S1.new hw2
    have e2 : G2 w2 = some (.lst (L8.map Kd.v)) := by rw [← hG2]; exact upd_same
    have e12 : G2 w1 = some (.lst (L14.map Kd.v)) := by rw [← hG2, upd_ne (ne_of_none e1 hw2)]; exact e1
    clear hG2
    refine ⟨_, rfl, .inr ⟨_, rfl, ?_⟩⟩
    refine ⟨3, _, rfl, rfl, .inl ⟨by decide, by decide⟩, ?_⟩
    refine ⟨8, _, rfl, rfl, ?_⟩
    refine ⟨_, rfl, ?_⟩
    refine ⟨w2, L8.map Kd.v, rfl, SqL.of e2, fun w3 hw3 => ?_⟩
    rw [ecut]
    generalize hG3 : upd G2 w3 _ = G3
    have S3 : StD H d sl cs.length G3 := by rw [← hG3]; exact S2.new hw3
    have e3 : G3 w3 = some (.lst ((L8.take (if st = true then 5 else 8)).map Kd.v)) := by rw [← hG3]; exact upd_same
    have e13 : G3 w1 = some (.lst (L14.map Kd.v)) := by rw [← hG3, upd_ne (ne_of_none e12 hw3)]; exact e12
    clear hG3
    refine ⟨w1, w3, _, _, rfl, rfl, e13, e3, ?_, fun w4 hw4 => ?_⟩
    · rw [List.length_map, List.length_map, List.length_take]
      exact Nat.le_trans (Nat.add_le_add (Nat.le_refl 14) (Nat.min_le_right _ _)) (by decide)
    rw [← List.map_append]
    generalize hG4 : upd G3 w4 _ = G4
    have S4 : StD H d sl cs.length G4 := by rw [← hG4]; exact S3.new hw4
    have e4 : G4 w4 = some (.lst ((Lk st).map Kd.v)) := by rw [← hG4]; exact upd_same
    have nw4 : w4 ∉ [d, sl] := S3.nin hw4
    clear hG4 e3 e13 e12 e2 e1
    have via : ∀ {te : TE} {σ : L2.St} {Q : VK}, (∀ Q' : VK, (∀ kd Hn, (st = true → kd ≠ Kd.go ∧ kd ≠ Kd.iff) → StD H d sl cs.length Hn → Q' (.str kd.str) Hn) → te σ G4 Q') → (∀ kd Hn, (st = true → kd ≠ Kd.go ∧ kd ≠ Kd.iff) → StD H d sl cs.length Hn → Q (.str kd.str) Hn) → te σ G4 Q := fun h q => h _ q
    refine via (te := tIf (tTest (tOp (rI0 fun i j => V.bl (decide (j < i))) (tCallR (sp_l_off K) (tCons (tVar 0) (tCons (tC (V.int 25)) tNil))) (tC (V.int 0)))) (tOp (rIxL K) (tVar 3) (tCallR (sp_l_off K) (tCons (tVar 0) (tCons (tCB (fun xs H Q => ∃ p ys, xs = [.ref p] ∧ (SqL K H p ys ∨ SqT K H p ys) ∧ Q (.int ys.length) H) (tCons (tVar 3) tNil)) tNil)))) (tC (.str "end"))) (fun Q' k => ?_) (fun kd G5 gk S5 => ?_)
    · refine S4.off c63 rfl (fun _ h => h) (by decide) (by decide) (fun Hy v Sy ky v0 v1 => ?_)
      refine ⟨_, _, rfl, rfl, ?_⟩
      refine ⟨_, rfl, ?_⟩
      have ey : Hy w4 = some (.lst ((Lk st).map Kd.v)) := ky _ _ e4 nw4
      refine ite2 (fun c1 => ?_) (fun c1 => ?_)
      · refine ⟨_, rfl, ?_⟩
        refine Sy.off (m := ((Lk st).length : Int)) c63 rfl (fun Q2 h => ⟨_, rfl, _, _, rfl, .inl (SqL.of ey), by rw [List.length_map]; exact h⟩) (by rw [Lk_len]; cases st <;> decide) (by rw [Lk_len]; cases st <;> decide) (fun Hz u Sz kz u0 u1 => ?_)
        have ez : Hz w4 = some (.lst ((Lk st).map Kd.v)) := kz _ _ ey nw4
        obtain ⟨kd, hkd⟩ : ∃ kd, (Lk st)[u.toNat]? = some kd := ⟨_, List.getElem?_eq_getElem (by omega)⟩
        refine ⟨_, _, _, _, rfl, rfl, SqL.of ez, ?_, k kd Hz (fun hs => ?_) Sz⟩
        · unfold atI ixN
          rw [if_pos u0, List.length_map, if_pos u1]
          show ((Lk st).map Kd.v)[u.toNat]? = _
          rw [List.getElem?_map, hkd]
          rfl
        · subst hs
          exact Lk_st kd (List.mem_of_getElem? hkd)
      · exact k .fin Hy (fun _ => ⟨Kd.noConfusion, Kd.noConfusion⟩) Sy
    · refine S5.off c63 rfl (fun _ h => h) (by decide) (by decide) (fun G6 r S6 k6 r0 r1 => ?_)
      refine S6.off c63 rfl (fun _ h => h) (by decide) (by decide) (fun G7 x S7 k7 x0 x1 => ?_)
      refine ⟨_, _, rfl, ?_⟩
      refine S7.pick c63 rfl (by decide) (by decide) (by decide) (by decide) (fun G8 ad S8 k8 ad0 ad1 => ?_)
      have ad31 : rg 0 31 ad := ⟨ad0, by omega⟩
      have r3 : rg 0 3 r := ⟨r0, by omega⟩
      have x3 : rg 0 3 x := ⟨x0, by omega⟩
      have rm : rg 0 2 (r % 3) := ⟨by omega, by omega⟩
      clear S0 S1 S2 S3 S4 S5 S6 S7 via
      have fin : ∀ (Hx : Hp) (rw_ : Row) (t : Addr), StD H d sl cs.length Hx → H t = none → Hx t = some (.tup rw_.vs) → rw_.ok many.toNat → (st = true → (∀ x, rw_ ≠ .go x) ∧ ∀ x y, rw_ ≠ .iff x y) → Q (.ref t) Hx := fun Hx rw_ t Sx nt ht ok hs => by
        obtain ⟨f, p, cs', Dx, cx, kx⟩ := Sx
        exact q Hx f p cs' t rw_ Dx cx kx nt ht ok hs
      have tup3 : ∀ (Hx : Hp) (rw_ : Row), StD H d sl cs.length Hx → rw_.ok many.toNat → (st = true → (∀ x, rw_ ≠ .go x) ∧ ∀ x y, rw_ ≠ .iff x y) → ∀ t, Hx t = none → Q (.ref t) (upd Hx t (.tup rw_.vs)) := fun Hx rw_ Sx ok hs t ht => fin _ rw_ t (Sx.new ht) (Sx.free ht) upd_same ok hs
      cases kd
      case add =>
        refine t_in true rfl (fun _ => rfl) (by decide) (by kernel_rfl) (by kernel_rfl) (fun u0 hu0 => iteT ?_)
        refine ⟨_, rfl, _, rfl, _, rfl, by show 3 ≤ sizeLine; decide, fun t ht => ?_⟩
        exact tup3 _ (.add r x) (S8.new hu0) ⟨r3, x3⟩ (fun _ => ⟨fun _ => Row.noConfusion, fun _ _ => Row.noConfusion⟩) t ht
      case less =>
        refine t_in true rfl (fun _ => rfl) (by decide) (by kernel_rfl) (by kernel_rfl) (fun u0 hu0 => iteT ?_)
        refine ⟨_, rfl, _, rfl, _, rfl, by show 3 ≤ sizeLine; decide, fun t ht => ?_⟩
        exact tup3 _ (.less r x) (S8.new hu0) ⟨r3, x3⟩ (fun _ => ⟨fun _ => Row.noConfusion, fun _ _ => Row.noConfusion⟩) t ht
      case getx =>
        refine t_in true rfl (fun _ => rfl) (by decide) (by kernel_rfl) (by kernel_rfl) (fun u0 hu0 => iteT ?_)
        refine ⟨_, rfl, _, rfl, _, rfl, by show 3 ≤ sizeLine; decide, fun t ht => ?_⟩
        exact tup3 _ (.getx r x) (S8.new hu0) ⟨r3, x3⟩ (fun _ => ⟨fun _ => Row.noConfusion, fun _ _ => Row.noConfusion⟩) t ht
      case putx =>
        refine t_in true rfl (fun _ => rfl) (by decide) (by kernel_rfl) (by kernel_rfl) (fun u0 hu0 => iteT ?_)
        refine ⟨_, rfl, _, rfl, _, rfl, by show 3 ≤ sizeLine; decide, fun t ht => ?_⟩
        exact tup3 _ (.putx r x) (S8.new hu0) ⟨r3, x3⟩ (fun _ => ⟨fun _ => Row.noConfusion, fun _ _ => Row.noConfusion⟩) t ht
      case get =>
        refine t_in false rfl (fun _ => rfl) (by decide) (by kernel_rfl) (by kernel_rfl) (fun u0 hu0 => iteF ?_)
        refine t_in true rfl (fun _ => rfl) (by decide) (by kernel_rfl) (by kernel_rfl) (fun u1 hu1 => iteT ?_)
        refine ⟨_, rfl, rfl, _, rfl, ?_⟩
        rw [dec_str]
        rw [decide_eq_true (by rfl)]
        refine iteT ?_
        refine ⟨_, rfl, _, rfl, _, rfl, by show 3 ≤ sizeLine; decide, fun t ht => ?_⟩
        exact tup3 _ (.get r ad) ((S8.new hu0).new hu1) ⟨r3, ad31⟩ (fun _ => ⟨fun _ => Row.noConfusion, fun _ _ => Row.noConfusion⟩) t ht
      case put =>
        refine t_in false rfl (fun _ => rfl) (by decide) (by kernel_rfl) (by kernel_rfl) (fun u0 hu0 => iteF ?_)
        refine t_in true rfl (fun _ => rfl) (by decide) (by kernel_rfl) (by kernel_rfl) (fun u1 hu1 => iteT ?_)
        refine ⟨_, rfl, rfl, _, rfl, ?_⟩
        rw [dec_str]
        rw [decide_eq_false (by decide +kernel)]
        refine iteF ?_
        refine ⟨_, rfl, _, rfl, _, rfl, by show 3 ≤ sizeLine; decide, fun t ht => ?_⟩
        exact tup3 _ (.put ad r) ((S8.new hu0).new hu1) ⟨ad31, r3⟩ (fun _ => ⟨fun _ => Row.noConfusion, fun _ _ => Row.noConfusion⟩) t ht
      case pair =>
        refine t_in false rfl (fun _ => rfl) (by decide) (by kernel_rfl) (by kernel_rfl) (fun u0 hu0 => iteF ?_)
        refine t_in false rfl (fun _ => rfl) (by decide) (by kernel_rfl) (by kernel_rfl) (fun u1 hu1 => iteF ?_)
        refine t_in true rfl (fun _ => rfl) (by decide) (by kernel_rfl) (by kernel_rfl) (fun u2 hu2 => iteT ?_)
        refine ⟨_, rfl, rfl, _, rfl, ?_⟩
        rw [dec_str]
        rw [decide_eq_true (by rfl)]
        refine iteT ?_
        refine ⟨_, rfl, _, rfl, _, _, rfl, rfl, (by show (0 : Int) < 3; decide), _, rfl, by show 3 ≤ sizeLine; decide, fun t ht => ?_⟩
        exact tup3 _ (.pair (r % 3) ad) (((S8.new hu0).new hu1).new hu2) ⟨rm, ad31⟩ (fun _ => ⟨fun _ => Row.noConfusion, fun _ _ => Row.noConfusion⟩) t ht
      case lay =>
        refine t_in false rfl (fun _ => rfl) (by decide) (by kernel_rfl) (by kernel_rfl) (fun u0 hu0 => iteF ?_)
        refine t_in false rfl (fun _ => rfl) (by decide) (by kernel_rfl) (by kernel_rfl) (fun u1 hu1 => iteF ?_)
        refine t_in true rfl (fun _ => rfl) (by decide) (by kernel_rfl) (by kernel_rfl) (fun u2 hu2 => iteT ?_)
        refine ⟨_, rfl, rfl, _, rfl, ?_⟩
        rw [dec_str]
        rw [decide_eq_false (by decide +kernel)]
        refine iteF ?_
        refine ⟨_, rfl, _, rfl, _, rfl, _, _, rfl, rfl, (by show (0 : Int) < 3; decide), by show 3 ≤ sizeLine; decide, fun t ht => ?_⟩
        exact tup3 _ (.lay ad (r % 3)) (((S8.new hu0).new hu1).new hu2) ⟨ad31, rm⟩ (fun _ => ⟨fun _ => Row.noConfusion, fun _ _ => Row.noConfusion⟩) t ht
      case go =>
        refine t_in false rfl (fun _ => rfl) (by decide) (by kernel_rfl) (by kernel_rfl) (fun u0 hu0 => iteF ?_)
        refine t_in false rfl (fun _ => rfl) (by decide) (by kernel_rfl) (by kernel_rfl) (fun u1 hu1 => iteF ?_)
        refine t_in false rfl (fun _ => rfl) (by decide) (by kernel_rfl) (by kernel_rfl) (fun u2 hu2 => iteF ?_)
        refine t_in true rfl (fun _ => rfl) (by decide) (by kernel_rfl) (by kernel_rfl) (fun u3 hu3 => iteT ?_)
        refine ⟨_, rfl, rfl, _, rfl, ?_⟩
        rw [dec_str]
        rw [decide_eq_true (by rfl)]
        refine iteT ?_
        refine ⟨_, rfl, ?_⟩
        refine StD.off ((((S8.new hu0).new hu1).new hu2).new hu3) c63 rfl (fun _ h => ⟨_, rfl, h⟩) (by omega) (by omega) (fun G9 v S9 k9 v0 v1 => ?_)
        refine ⟨by show 2 ≤ sizeLine; decide, fun t ht => ?_⟩
        exact tup3 _ (.go v) S9 ⟨v0, by omega⟩ (fun hs => absurd rfl (gk hs).1) t ht
      case iff =>
        refine t_in false rfl (fun _ => rfl) (by decide) (by kernel_rfl) (by kernel_rfl) (fun u0 hu0 => iteF ?_)
        refine t_in false rfl (fun _ => rfl) (by decide) (by kernel_rfl) (by kernel_rfl) (fun u1 hu1 => iteF ?_)
        refine t_in false rfl (fun _ => rfl) (by decide) (by kernel_rfl) (by kernel_rfl) (fun u2 hu2 => iteF ?_)
        refine t_in true rfl (fun _ => rfl) (by decide) (by kernel_rfl) (by kernel_rfl) (fun u3 hu3 => iteT ?_)
        refine ⟨_, rfl, rfl, _, rfl, ?_⟩
        rw [dec_str]
        rw [decide_eq_false (by decide +kernel)]
        refine iteF ?_
        refine ⟨_, rfl, _, rfl, ?_⟩
        refine StD.off ((((S8.new hu0).new hu1).new hu2).new hu3) c63 rfl (fun _ h => ⟨_, rfl, h⟩) (by omega) (by omega) (fun G9 v S9 k9 v0 v1 => ?_)
        refine ⟨by show 3 ≤ sizeLine; decide, fun t ht => ?_⟩
        exact tup3 _ (.iff r v) S9 ⟨r3, v0, by omega⟩ (fun hs => absurd rfl (gk hs).2) t ht
      all_goals
        refine t_in false rfl (fun _ => rfl) (by decide) (by kernel_rfl) (by kernel_rfl) (fun u0 hu0 => iteF ?_)
        refine t_in false rfl (fun _ => rfl) (by decide) (by kernel_rfl) (by kernel_rfl) (fun u1 hu1 => iteF ?_)
        refine t_in false rfl (fun _ => rfl) (by decide) (by kernel_rfl) (by kernel_rfl) (fun u2 hu2 => iteF ?_)
        refine t_in false rfl (fun _ => rfl) (by decide) (by kernel_rfl) (by kernel_rfl) (fun u3 hu3 => iteF ?_)
        generalize hG9 : upd _ u3 _ = G9
        have S9 : StD H d sl cs.length G9 := by rw [← hG9]; exact (((S8.new hu0).new hu1).new hu2).new hu3
        clear hG9
        intro p hp
        have np : p ∉ [d, sl] := S9.nin hp
        generalize hP0 : upd G9 p _ = P0
        have SP0 : StD H d sl cs.length P0 := by rw [← hP0]; exact S9.new hp
        have p0 : P0 p = some (.dK []) := by rw [← hP0]; exact upd_same
        clear hP0
        refine ⟨_, rfl, ?_⟩
        refine SP0.off c63 rfl (fun _ h => h) (by decide) (by decide) (fun P1 v1 SP1 kk1 v10 v11 => ?_)
        have k1 : Tk P0 P1 := SP0.tk kk1
        have p1 : P1 p = some (.dK []) := kk1 _ _ p0 np
        refine ⟨by show 2 ≤ sizeLine; decide, fun t1 nt1 => ?_⟩
        generalize hP2 : upd P1 t1 _ = P2
        have SP2 : StD H d sl cs.length P2 := by rw [← hP2]; exact SP1.new nt1
        have k2 : Tk P1 P2 := by rw [← hP2]; exact Tk.same (Same.new (Same.refl _) nt1)
        have ht1 : P2 t1 = some (.tup [.int r, .int v1]) := by rw [← hP2]; exact upd_same
        have p2 : P2 p = some (.dK []) := by rw [← hP2, upd_ne (ne_of_none p1 nt1)]; exact p1
        clear hP2
        refine SP2.off c63 rfl (fun _ h => h) (by decide) (by decide) (fun P3 v2 SP3 kk3 v20 v21 => ?_)
        have k3 : Tk P2 P3 := SP2.tk kk3
        have p3 : P3 p = some (.dK []) := kk3 _ _ p2 np
        refine ⟨by show 1 ≤ sizeLine; decide, fun t2 nt2 => ?_⟩
        generalize hP4 : upd P3 t2 _ = P4
        have SP4 : StD H d sl cs.length P4 := by rw [← hP4]; exact SP3.new nt2
        have k4 : Tk P3 P4 := by rw [← hP4]; exact Tk.same (Same.new (Same.refl _) nt2)
        have ht2 : P4 t2 = some (.tup [.int v2]) := by rw [← hP4]; exact upd_same
        have p4 : P4 p = some (.dK []) := by rw [← hP4, upd_ne (ne_of_none p3 nt2)]; exact p3
        clear hP4
        refine ⟨_, rfl, ?_⟩
        refine SP4.off c63 rfl (fun _ h => h) (by decide) (by decide) (fun P5 v3 SP5 kk5 v30 v31 => ?_)
        have k5 : Tk P4 P5 := SP4.tk kk5
        have p5 : P5 p = some (.dK []) := kk5 _ _ p4 np
        refine ⟨by show 2 ≤ sizeLine; decide, fun t3 nt3 => ?_⟩
        generalize hP6 : upd P5 t3 _ = P6
        have SP6 : StD H d sl cs.length P6 := by rw [← hP6]; exact SP5.new nt3
        have k6 : Tk P5 P6 := by rw [← hP6]; exact Tk.same (Same.new (Same.refl _) nt3)
        have ht3 : P6 t3 = some (.tup [.int r, .int v3]) := by rw [← hP6]; exact upd_same
        have p6 : P6 p = some (.dK []) := by rw [← hP6, upd_ne (ne_of_none p5 nt3)]; exact p5
        clear hP6
        refine ⟨by show 0 ≤ sizeLine; decide, fun t4 nt4 => ?_⟩
        generalize hP7 : upd P6 t4 _ = P7
        have SP7 : StD H d sl cs.length P7 := by rw [← hP7]; exact SP6.new nt4
        have k7 : Tk P6 P7 := by rw [← hP7]; exact Tk.same (Same.new (Same.refl _) nt4)
        have ht4 : P7 t4 = some (.tup []) := by rw [← hP7]; exact upd_same
        have p7 : P7 p = some (.dK []) := by rw [← hP7, upd_ne (ne_of_none p6 nt4)]; exact p6
        clear hP7
        refine ⟨p7, [(Sum.inr "set", .ref t1), (Sum.inr "ask", .ref t2), (Sum.inr "done", .ref t3), (Sum.inr "end", .ref t4)], rfl, Nat.le_of_ble_eq_true rfl, ?_⟩
        generalize hM : mergeK [] _ = M
        generalize hP8 : upd P7 p _ = P8
        have kp8 : Kept [p] P7 P8 := by rw [← hP8]; exact (Kept.refl _ _).put (by simp)
        have k8 : Tk P7 P8 := Tk.put1 kp8 p7 rfl
        have SP8 : StD H d sl cs.length P8 := SP7.putP kp8 np (S9.free hp)
        have p8 : P8 p = some (.dK M) := by rw [← hP8]; exact upd_same
        clear hP8
        refine ⟨_, rfl, ?_⟩
        refine ⟨.inr (.inr (.inl ⟨rfl, .inl ⟨_, p8⟩⟩)), ?_⟩
        refine ⟨_, rfl, _, _, rfl, rfl, (by show (0 : Int) < 3; decide), ?_⟩
        refine ⟨by show 1 ≤ sizeLine; decide, fun a1 na1 => ?_⟩
        generalize hP9 : upd P8 a1 _ = P9
        have SP9 : StD H d sl cs.length P9 := by rw [← hP9]; exact SP8.new na1
        have k9 : Tk P8 P9 := by rw [← hP9]; exact Tk.same (Same.new (Same.refl _) na1)
        have ha1 : P9 a1 = some (.tup [.int (r % 3)]) := by rw [← hP9]; exact upd_same
        have p9 : P9 p = some (.dK M) := by rw [← hP9, upd_ne (ne_of_none p8 na1)]; exact p8
        clear hP9
        refine ⟨by show 2 ≤ sizeLine; decide, fun b1 nb1 => ?_⟩
        generalize hP10 : upd P9 b1 _ = P10
        have SP10 : StD H d sl cs.length P10 := by rw [← hP10]; exact SP9.new nb1
        have k10 : Tk P9 P10 := by rw [← hP10]; exact Tk.same (Same.new (Same.refl _) nb1)
        have hb1 : P10 b1 = some (.tup [.str "mark", .ref a1]) := by rw [← hP10]; exact upd_same
        have p10 : P10 p = some (.dK M) := by rw [← hP10, upd_ne (ne_of_none p9 nb1)]; exact p9
        clear hP10
        refine ⟨_, rfl, _, _, rfl, rfl, (by show (0 : Int) < 3; decide), ?_⟩
        refine ⟨by show 1 ≤ sizeLine; decide, fun a2 na2 => ?_⟩
        generalize hP11 : upd P10 a2 _ = P11
        have SP11 : StD H d sl cs.length P11 := by rw [← hP11]; exact SP10.new na2
        have k11 : Tk P10 P11 := by rw [← hP11]; exact Tk.same (Same.new (Same.refl _) na2)
        have ha2 : P11 a2 = some (.tup [.int (r % 3)]) := by rw [← hP11]; exact upd_same
        have p11 : P11 p = some (.dK M) := by rw [← hP11, upd_ne (ne_of_none p10 na2)]; exact p10
        clear hP11
        refine ⟨by show 2 ≤ sizeLine; decide, fun b2 nb2 => ?_⟩
        generalize hP12 : upd P11 b2 _ = P12
        have SP12 : StD H d sl cs.length P12 := by rw [← hP12]; exact SP11.new nb2
        have k12 : Tk P11 P12 := by rw [← hP12]; exact Tk.same (Same.new (Same.refl _) nb2)
        have hb2 : P12 b2 = some (.tup [.str "clear", .ref a2]) := by rw [← hP12]; exact upd_same
        have p12 : P12 p = some (.dK M) := by rw [← hP12, upd_ne (ne_of_none p11 nb2)]; exact p11
        clear hP12
        refine SP12.off c63 rfl (fun _ h => h) (by decide) (by decide) (fun P13 v4 SP13 kk13 v40 v41 => ?_)
        have k13 : Tk P12 P13 := SP12.tk kk13
        have p13 : P13 p = some (.dK M) := kk13 _ _ p12 np
        refine ⟨_, _, rfl, rfl, ?_⟩
        refine ⟨by show 1 ≤ sizeLine; decide, fun a3 na3 => ?_⟩
        generalize hP14 : upd P13 a3 _ = P14
        have SP14 : StD H d sl cs.length P14 := by rw [← hP14]; exact SP13.new na3
        have k14 : Tk P13 P14 := by rw [← hP14]; exact Tk.same (Same.new (Same.refl _) na3)
        have ha3 : P14 a3 = some (.tup [.int (1 + v4)]) := by rw [← hP14]; exact upd_same
        have p14 : P14 p = some (.dK M) := by rw [← hP14, upd_ne (ne_of_none p13 na3)]; exact p13
        clear hP14
        refine ⟨by show 2 ≤ sizeLine; decide, fun b3 nb3 => ?_⟩
        generalize hP15 : upd P14 b3 _ = P15
        have SP15 : StD H d sl cs.length P15 := by rw [← hP15]; exact SP14.new nb3
        have k15 : Tk P14 P15 := by rw [← hP15]; exact Tk.same (Same.new (Same.refl _) nb3)
        have hb3 : P15 b3 = some (.tup [.str "rest", .ref a3]) := by rw [← hP15]; exact upd_same
        have p15 : P15 p = some (.dK M) := by rw [← hP15, upd_ne (ne_of_none p14 nb3)]; exact p14
        clear hP15
        refine ⟨by show 3 ≤ sizeLine; decide, fun l nl => ?_⟩
        generalize hP16 : upd P15 l _ = P16
        have SP16 : StD H d sl cs.length P16 := by rw [← hP16]; exact SP15.new nl
        have k16 : Tk P15 P16 := by rw [← hP16]; exact Tk.same (Same.new (Same.refl _) nl)
        have hl : P16 l = some (.lst ([b1, b2, b3].map V.ref)) := by rw [← hP16]; exact upd_same
        have p16 : P16 p = some (.dK M) := by rw [← hP16, upd_ne (ne_of_none p15 nl)]; exact p15
        clear hP16
        refine ⟨p, l, [b1, b2, b3], M, [(Sum.inr "mark", .ref a1), (Sum.inr "clear", .ref a2), (Sum.inr "rest", .ref a3)], rfl, rfl, p16, hl, .cons (k16 _ _ (k15 _ _ (k14 _ _ (k13 _ _ (k12 _ _ (k11 _ _ hb1)))))) (.cons (k16 _ _ (k15 _ _ (k14 _ _ (k13 _ _ hb2)))) (.cons (k16 _ _ hb3) .nil)), ?_, ?_⟩
        · rw [← hM]; exact Nat.le_of_ble_eq_true (by kernel_rfl)
        generalize hN : mergeK M _ = N
        generalize hP17 : upd P16 p _ = P17
        have kp17 : Kept [p] P16 P17 := by rw [← hP17]; exact (Kept.refl _ _).put (by simp)
        have k17 : Tk P16 P17 := Tk.put1 kp17 p16 rfl
        have SP17 : StD H d sl cs.length P17 := SP16.putP kp17 np (S9.free hp)
        have p17 : P17 p = some (.dK N) := by rw [← hP17]; exact upd_same
        clear hP17
      · have hz := k17 _ _ (k16 _ _ (k15 _ _ (k14 _ _ (k13 _ _ (k12 _ _ (k11 _ _ (k10 _ _ (k9 _ _ (k8 _ _ (k7 _ _ (k6 _ _ (k5 _ _ (k4 _ _ (k3 _ _ (ht1)))))))))))))))
        refine ⟨_, rfl, by show 1 ≤ sizeLine; decide, fun y ny => ?_⟩
        have sy : Same P17 (upd P17 y (.tup [.str "set"])) := Same.new (Same.refl _) ny
        have hv : (some (V.ref t1) : Option V) = valV N (Sum.inr "set") := by rw [← hN, ← hM]; kernel_rfl
        refine ⟨_, rfl, _, rfl, p, .ref t1, rfl, .inl ⟨N, Sum.inr "set", .inl (sy _ _ p17), rfl, hv⟩, ?_⟩
        refine ⟨y, t1, _, _, rfl, rfl, SqT.of upd_same, SqT.of (sy _ _ hz), (by show 3 ≤ sizeLine; decide), (fun c => nomatch c), (fun _ c => nomatch c), fun _ _ t9 n9 => ?_⟩
        exact tup3 _ (.set r v1) (SP17.new ny) ⟨r3, v10, by omega⟩ (fun _ => ⟨fun _ => Row.noConfusion, fun _ _ => Row.noConfusion⟩) t9 n9
      · have hz := k17 _ _ (k16 _ _ (k15 _ _ (k14 _ _ (k13 _ _ (k12 _ _ (k11 _ _ (k10 _ _ (k9 _ _ (k8 _ _ (k7 _ _ (k6 _ _ (k5 _ _ (ht2)))))))))))))
        refine ⟨_, rfl, by show 1 ≤ sizeLine; decide, fun y ny => ?_⟩
        have sy : Same P17 (upd P17 y (.tup [.str "ask"])) := Same.new (Same.refl _) ny
        have hv : (some (V.ref t2) : Option V) = valV N (Sum.inr "ask") := by rw [← hN, ← hM]; kernel_rfl
        refine ⟨_, rfl, _, rfl, p, .ref t2, rfl, .inl ⟨N, Sum.inr "ask", .inl (sy _ _ p17), rfl, hv⟩, ?_⟩
        refine ⟨y, t2, _, _, rfl, rfl, SqT.of upd_same, SqT.of (sy _ _ hz), (by show 2 ≤ sizeLine; decide), (fun c => nomatch c), (fun _ c => nomatch c), fun _ _ t9 n9 => ?_⟩
        exact tup3 _ (.ask v2) (SP17.new ny) ⟨v20, by omega⟩ (fun _ => ⟨fun _ => Row.noConfusion, fun _ _ => Row.noConfusion⟩) t9 n9
      · have hz := k17 _ _ (k16 _ _ (k15 _ _ (k14 _ _ (k13 _ _ (k12 _ _ (k11 _ _ (k10 _ _ (k9 _ _ (k8 _ _ (k7 _ _ (ht3)))))))))))
        refine ⟨_, rfl, by show 1 ≤ sizeLine; decide, fun y ny => ?_⟩
        have sy : Same P17 (upd P17 y (.tup [.str "done"])) := Same.new (Same.refl _) ny
        have hv : (some (V.ref t3) : Option V) = valV N (Sum.inr "done") := by rw [← hN, ← hM]; kernel_rfl
        refine ⟨_, rfl, _, rfl, p, .ref t3, rfl, .inl ⟨N, Sum.inr "done", .inl (sy _ _ p17), rfl, hv⟩, ?_⟩
        refine ⟨y, t3, _, _, rfl, rfl, SqT.of upd_same, SqT.of (sy _ _ hz), (by show 3 ≤ sizeLine; decide), (fun c => nomatch c), (fun _ c => nomatch c), fun _ _ t9 n9 => ?_⟩
        exact tup3 _ (.done r v3) (SP17.new ny) ⟨r3, v30, by omega⟩ (fun _ => ⟨fun _ => Row.noConfusion, fun _ _ => Row.noConfusion⟩) t9 n9
      · have hz := k17 _ _ (k16 _ _ (k15 _ _ (k14 _ _ (k13 _ _ (k12 _ _ (k11 _ _ (k10 _ _ (ha1))))))))
        refine ⟨_, rfl, by show 1 ≤ sizeLine; decide, fun y ny => ?_⟩
        have sy : Same P17 (upd P17 y (.tup [.str "mark"])) := Same.new (Same.refl _) ny
        have hv : (some (V.ref a1) : Option V) = valV N (Sum.inr "mark") := by rw [← hN, ← hM]; kernel_rfl
        refine ⟨_, rfl, _, rfl, p, .ref a1, rfl, .inl ⟨N, Sum.inr "mark", .inl (sy _ _ p17), rfl, hv⟩, ?_⟩
        refine ⟨y, a1, _, _, rfl, rfl, SqT.of upd_same, SqT.of (sy _ _ hz), (by show 2 ≤ sizeLine; decide), (fun c => nomatch c), (fun _ c => nomatch c), fun _ _ t9 n9 => ?_⟩
        exact tup3 _ (.mark (r % 3)) (SP17.new ny) rm (fun _ => ⟨fun _ => Row.noConfusion, fun _ _ => Row.noConfusion⟩) t9 n9
      · have hz := k17 _ _ (k16 _ _ (k15 _ _ (k14 _ _ (k13 _ _ (k12 _ _ (ha2))))))
        refine ⟨_, rfl, by show 1 ≤ sizeLine; decide, fun y ny => ?_⟩
        have sy : Same P17 (upd P17 y (.tup [.str "clear"])) := Same.new (Same.refl _) ny
        have hv : (some (V.ref a2) : Option V) = valV N (Sum.inr "clear") := by rw [← hN, ← hM]; kernel_rfl
        refine ⟨_, rfl, _, rfl, p, .ref a2, rfl, .inl ⟨N, Sum.inr "clear", .inl (sy _ _ p17), rfl, hv⟩, ?_⟩
        refine ⟨y, a2, _, _, rfl, rfl, SqT.of upd_same, SqT.of (sy _ _ hz), (by show 2 ≤ sizeLine; decide), (fun c => nomatch c), (fun _ c => nomatch c), fun _ _ t9 n9 => ?_⟩
        exact tup3 _ (.clear (r % 3)) (SP17.new ny) rm (fun _ => ⟨fun _ => Row.noConfusion, fun _ _ => Row.noConfusion⟩) t9 n9
      · have hz := k17 _ _ (k16 _ _ (k15 _ _ (ha3)))
        refine ⟨_, rfl, by show 1 ≤ sizeLine; decide, fun y ny => ?_⟩
        have sy : Same P17 (upd P17 y (.tup [.str "rest"])) := Same.new (Same.refl _) ny
        have hv : (some (V.ref a3) : Option V) = valV N (Sum.inr "rest") := by rw [← hN, ← hM]; kernel_rfl
        refine ⟨_, rfl, _, rfl, p, .ref a3, rfl, .inl ⟨N, Sum.inr "rest", .inl (sy _ _ p17), rfl, hv⟩, ?_⟩
        refine ⟨y, a3, _, _, rfl, rfl, SqT.of upd_same, SqT.of (sy _ _ hz), (by show 2 ≤ sizeLine; decide), (fun c => nomatch c), (fun _ c => nomatch c), fun _ _ t9 n9 => ?_⟩
        exact tup3 _ (.rest (1 + v4)) (SP17.new ny) ⟨by omega, by omega⟩ (fun _ => ⟨fun _ => Row.noConfusion, fun _ _ => Row.noConfusion⟩) t9 n9
      · have hz := k17 _ _ (k16 _ _ (k15 _ _ (k14 _ _ (k13 _ _ (k12 _ _ (k11 _ _ (k10 _ _ (k9 _ _ (k8 _ _ (ht4))))))))))
        refine ⟨_, rfl, by show 1 ≤ sizeLine; decide, fun y ny => ?_⟩
        have sy : Same P17 (upd P17 y (.tup [.str "end"])) := Same.new (Same.refl _) ny
        have hv : (some (V.ref t4) : Option V) = valV N (Sum.inr "end") := by rw [← hN, ← hM]; kernel_rfl
        refine ⟨_, rfl, _, rfl, p, .ref t4, rfl, .inl ⟨N, Sum.inr "end", .inl (sy _ _ p17), rfl, hv⟩, ?_⟩
        refine ⟨y, t4, _, _, rfl, rfl, SqT.of upd_same, SqT.of (sy _ _ hz), (by show 1 ≤ sizeLine; decide), (fun c => nomatch c), fun _ _ => ?_, fun _ c => absurd rfl c⟩
        exact fin _ .fin y (SP17.new ny) (SP17.free ny) upd_same trivial (fun _ => ⟨fun _ => Row.noConfusion, fun _ _ => Row.noConfusion⟩)
end
end SB

set_option Elab.async false
set_option linter.all false
set_option maxRecDepth 100000
set_option maxHeartbeats 4000000
namespace SB
open PySem L2
section
variable {P : Program} {w : World} {K : PySem.W.Frag} {mg : Str → Option Value} {base : Heap}
def Straight (prog : List Row) : Prop := ∀ r ∈ prog, (∀ x, r ≠ .go x) ∧ ∀ x y, r ≠ .iff x y
def sp_l_program (K : PySem.W.Frag) : Sp := fun vs H Q _ => ∃ (d sl : Addr) (f p : Int) (cs : List Int) (st : Bool), vs = [.ref d, .bl st] ∧ DiceAt H d sl f p cs ∧ cs.length ≤ 63 ∧
  ∀ (H' : Hp) (f' p' : Int) (cs' : List Int) (pa : Addr) (rs : List Addr) (prog : List Row), DiceAt H' d sl f' p' cs' → cs'.length = cs.length → Kept [d, sl] H H' → H pa = none → ProgAt K H' pa rs prog → 0 < prog.length → prog.length ≤ 40 → (∀ r ∈ prog, r.ok prog.length) → (st = true → Straight prog) → Q (.ref pa) H'
end
end SB

set_option Elab.async false
set_option linter.all false
set_option maxRecDepth 100000
set_option maxHeartbeats 2000000
namespace SB
open PySem L2
theorem ok_any {r : Row} {m n : Nat} (h1 : ∀ x, r ≠ .go x) (h2 : ∀ x y, r ≠ .iff x y) (h : r.ok m) : r.ok n := by
  cases r <;> first | exact h | exact absurd rfl (h1 _) | exact absurd rfl (h2 _ _)
section
variable {P : Program} {w : World} {K : PySem.W.Frag} {mg : Str → Option Value} {base : Heap}
def sp_l_near (K : PySem.W.Frag) : Sp := sp_l_work K
theorem ok_l_near (T : T w K mg) : FnR P w K mg base CX0 3 (He.ga K "_law_near") (sp_l_near K) := by
  have F_l_off : FnR P w K mg base CX0 1 _ _ := ok_l_off T
  have F_l_work : FnR P w K mg base CX0 2 _ _ := ok_l_work T
  obtain ⟨fd, F⟩ := T.f_l_near
  refine F.r sc_l_near (fun _ _ _ _ _ _ us hl => match us, hl with | [_, _], _ => rfl) (fun vs H Q E h => ?_) (fun cdv A outer s H vs Q E hr h => ?_)
  · obtain ⟨_, _, _, _, _, _, rfl, _⟩ := h
    rfl
  · obtain ⟨d, sl, f, p, cs, many, rfl, D, c63, m1, m6, q⟩ := h
    refine ⟨_, (pss_cons (ps_set (i := 2) sc_l_near.nd rfl (Or.inl rfl) (pe_callR F_l_work (hr.mono (by decide)) rfl T.g_l_work T.k_l_work (pa_cons (pv 0) (pa_cons (pv 1) pa_nil))))
  (pss_one (ps_ret (pe_op op_catA (pe_tup (pa_cons (pe_ix ix_tup (pv 2) pe_int (fun _ _ => rfl)) (pa_cons (pe_callR F_l_off (hr.mono (by decide)) rfl T.g_l_off T.k_l_off (pa_cons (pv 0) (pa_cons pe_int pa_nil))) pa_nil))) (pe_slice sl_tup (pv 2) (po_some pe_int) po_none))))), ?_⟩
    refine ⟨_, rfl, _, rfl, d, sl, f, p, cs, many, rfl, D, c63, m1, m6, fun H1 f1 p1 cs1 t k D1 c1 k1 nt ht wok => ?_⟩
    refine ⟨_, rfl, _, _, _, _, rfl, rfl, SqT.of ht, rfl, ?_⟩
    refine ⟨_, rfl, d, sl, f1, p1, cs1, 8, rfl, D1, by omega, by decide, by decide, fun H2 f2 p2 cs2 v D2 c2 k2 v0 v1 => ?_⟩
    have tnD : t ∉ [d, sl] := D.ned nt
    have ht2 := k2 _ _ ht tnD
    refine ⟨by show 2 ≤ sizeLine; decide, fun a na => ?_⟩
    have s3 : Same H2 (upd H2 a (.tup [.int k.begin, .int v])) := Same.new (Same.refl _) na
    have h3 : upd H2 a (.tup [.int k.begin, .int v]) a = some (.tup [.int k.begin, .int v]) := upd_same
    generalize upd H2 a (.tup [.int k.begin, .int v]) = H3 at s3 h3
    refine ⟨_, rfl, 2, rfl, t, _, rfl, SqT.of (s3 _ _ ht2), ?_, fun b nb => ?_⟩
    · show ¬ (HT.sIx 7 0 (some 2) = 0 ∧ HT.sIx 7 7 none = 7)
      decide +kernel
    have e : cutV k.vs (some 2) none = k.vs.drop 2 := by
      unfold cutV
      rw [HT.sIx_none, show HT.sIx k.vs.length 0 (some 2) = 2 by show HT.sIx 7 0 (some 2) = 2; decide +kernel]
      rfl
    rw [e]
    have s4 : Same H3 (upd H3 b (.tup (k.vs.drop 2))) := Same.new (Same.refl _) nb
    have h4 : upd H3 b (.tup (k.vs.drop 2)) b = some (.tup (k.vs.drop 2)) := upd_same
    generalize upd H3 b (.tup (k.vs.drop 2)) = H4 at s4 h4
    refine ⟨a, b, _, _, rfl, rfl, SqT.of (s4 _ _ h3), SqT.of h4, by show 7 ≤ sizeLine; decide, (fun z => by cases z), (fun _ z => by cases z), fun _ _ c nc => ?_⟩
    have s5 : Same H4 (upd H4 c (.tup ({ k with goal := v } : Wk).vs)) := Same.new (Same.refl _) nc
    have s25 := (s3.trans s4).trans s5
    have k5 : Kept [d, sl] H (upd H4 c (.tup ({ k with goal := v } : Wk).vs)) := (k1.trans k2).trans (Kept.same s25)
    have nc2 : H2 c = none := Same.free (s3.trans s4) nc
    have nc0 : H c = none := (k1.trans k2).free nc2 (D2.ned nc2)
    exact q _ f2 p2 cs2 c { k with goal := v } (D2.same s25) (by omega) k5 nc0 upd_same ⟨wok.b, ⟨v0, by show v ≤ 31; omega⟩, wok.m, wok.c, wok.gr, wok.mar, wok.fo⟩
def sp_l_paired (K : PySem.W.Frag) : Sp := sp_l_program K
end
end SB

set_option Elab.async false
set_option linter.all false
set_option maxRecDepth 100000
set_option maxHeartbeats 4000000
namespace SB
open PySem PySem.Spec PyProof.Rows L2 LamX
theorem wipeA {σ : L2.St} {i : Nat} {x : Option V} : wipe ((wipe σ [i]).set i x) [i] = wipe σ [i] := by
  simp [wipe]
theorem lookA {σ : L2.St} {i : Nat} {x : Option V} (h : i < σ.length) : ((wipe σ [i]).set i x)[i]? = some x := by
  simp [wipe, h]
theorem lookB {σ : L2.St} {i j : Nat} {x : Option V} (h : j ≠ i) : ((wipe σ [i]).set i x)[j]? = σ[j]? := by
  simp [wipe, List.getElem?_set, Ne.symm h]
theorem seqL {a b : TS} {D : Ends} {σ : L2.St} {H : Hp} (h : a { D with nx := b D } σ H) : tSeq a b D σ H := h
theorem asgL {te : TE} {i : Nat} {D : Ends} {σ : L2.St} {H : Hp} (h : te σ H fun v H' => D.nx (σ.set i (some v)) H') : tAsg te (gName i) D σ H := h
theorem in_ints {a : Int} {xs : List Int} : inV (.int a) (xs.map V.int) = decide (a ∈ xs) := by
  unfold inV
  induction xs with
  | nil => rfl
  | cons x r ih =>
    rw [List.map_cons, List.any_cons, ih]
    have e : eqV (V.int x) (V.int a) = decide (x = a) := by
      first | rfl | (unfold eqV; simp) | (show (x == a) = _; exact rfl)
    rw [e]
    by_cases h : x = a
    · subst h
      simp
    · have h' : ¬ a = x := fun z => h z.symm
      simp [h, h']
theorem flat_ints (xs : List Int) : (xs.map V.int).all flatV = true := by
  induction xs with
  | nil => rfl
  | cons x r ih =>
    rw [List.map_cons, List.all_cons, ih]
    rfl
section
variable {P : Program} {w : World} {K : PySem.W.Frag} {mg : Str → Option Value} {base : Heap} {H H' : Hp}
theorem flt_lc {σ : L2.St} {L : Addr} {lp : List Addr} {ys : List Ld} {p : Ld → Bool} {Q : VK} {te : TE} {tt : TT} (hl : σ.length = 17) (hte : ∀ Q' : VK, Q' (.ref L) H → te σ H Q') (A : TupsAt H L lp (ys.map l4V)) (l3 : ys.length ≤ 1000)
    (htt : ∀ (σ2 : L2.St) (H3 : Hp) (t : Addr) (x : Ld) (Q' : Bool → Hp → Prop), σ2[15]? = some (some (.ref t)) → (∀ j, j ≠ 15 → σ2[j]? = σ[j]?) → H3 t = some (.tup (l4V x)) → Q' (p x) H3 → tt σ2 H3 Q')
    (q : ∀ H' R us, H R = none → TupsAt H' R us ((ys.filter p).map l4V) → Same H H' → Q (.ref R) H') :
    tLc (iList K te) (gName 15) tt (tVar 15) [15] σ H Q := by
  refine hte _ ⟨L, rfl, ⟨_, SqL.of A.lst⟩, fun R nR => ?_⟩
  refine lc_list (K := K) (a := L) (xs := lp.map V.ref) (fun i H2 => ∃ us, TupsAt H2 R us (((ys.take i).filter p).map l4V) ∧ Same H H2)
    ⟨[], ⟨upd_same, rfl, fun j p vs e1 _ => by simp at e1⟩, Same.new (Same.refl _) nR⟩ (fun i H2 _ ⟨_, _, s⟩ => SqL.of (s _ _ A.lst)) ?_ ?_
  · rintro i x H2 hx ⟨us, T2, s2⟩
    rw [List.getElem?_map] at hx
    cases ht : lp[i]? with
    | none => rw [ht] at hx; cases hx
    | some t =>
      rw [ht] at hx
      cases hx
      have hi : i < ys.length := by
        have := (List.getElem?_eq_some_iff.mp ht).1
        rw [A.len, List.length_map] at this
        exact this
      obtain ⟨x, hx⟩ : ∃ x, ys[i]? = some x := ⟨_, List.getElem?_eq_getElem hi⟩
      have h0 := A.at_ i t (l4V x) ht (by rw [List.getElem?_map, hx]; rfl)
      have h2 := s2 _ _ h0
      have et : ys.take (i + 1) = ys.take i ++ [x] := by
        rw [List.take_add_one, hx]
        rfl
      refine ⟨wipeA, ?_⟩
      refine htt _ _ t x _ (lookA (by omega)) (fun j hj => lookB hj) h2 ?_
      cases hr : p x with
      | true =>
        refine iteT ⟨.ref t, lookA (by omega), _, T2.lst, ?_, us ++ [t], ?_, Same.new s2 nR⟩
        · rw [List.length_map, T2.len, List.length_map]
          have h1 : ((ys.take i).filter p).length ≤ (ys.take i).length := List.length_filter_le _ _
          rw [List.length_take] at h1
          exact Nat.lt_of_le_of_lt (show _ ≤ 1000 by omega) (by decide)
        · have em : us.map V.ref ++ [.ref t] = (us ++ [t]).map V.ref := by simp
          have e2 : ((ys.take (i + 1)).filter p).map l4V = ((ys.take i).filter p).map l4V ++ [l4V x] := by
            rw [et, List.filter_append, List.filter_cons_of_pos hr, List.filter_nil, List.map_append]
            rfl
          rw [em, e2]
          exact T2.push h2
      | false =>
        refine iteF ⟨us, ?_, s2⟩
        rw [et, List.filter_append, List.filter_cons_of_neg (by rw [hr]; decide), List.filter_nil, List.append_nil]
        exact T2
  · rintro H2 ⟨us, T2, s2⟩
    rw [List.length_map, A.len, List.length_map, List.take_length] at T2
    exact q _ _ _ nR T2 s2
abbrev NLT : List Str := ["_law_s", "_law_works", "_law_found", "_law_size", "_law_row_here", "_law_low", "_law_first", "_law_high", "_law_second", "_law_ever", "_law_mine", "_law_work_here", "_law_goals", "_law_ahead", "_law_behind", "_law_one", "_law_k"]
end
end SB

set_option Elab.async false
set_option linter.all false
set_option maxRecDepth 100000
set_option maxHeartbeats 4000000
namespace SB
open PySem PySem.Spec PyProof.Rows L2 LamX StX
section
variable {P : Program} {w : World} {K : PySem.W.Frag} {mg : Str → Option Value} {base : Heap} {H H' : Hp}
theorem near_lc {σ : L2.St} {i : Nat} {n : Int} {d sl : Addr} {f p : Int} {cs : List Int} {Q : VK} (hl : i < σ.length) (hi1 : 1 ≠ i) (h1 : σ[1]? = some (some (.ref d))) (D : DiceAt H d sl f p cs) (c63 : cs.length ≤ 63) (n1 : 1 ≤ n) (n6 : n ≤ 6)
    (q : ∀ (H' : Hp) (f' p' : Int) (cs' : List Int) (R : Addr) (ts : List Addr) (ks : List Wk), DiceAt H' d sl f' p' cs' → cs'.length = cs.length → Kept [d, sl] H H' → H R = none → TupsAt H' R ts (ks.map Wk.vs) → ks.length = n.toNat → (∀ k ∈ ks, WOk ks.length k) → Q (.ref R) H') :
    tLc (iRng1 (tCons (tC (.int n)) tNil)) (gName i) tYes (tCallR (sp_l_near K) (tCons (tVar 1) (tCons (tC (.int n)) tNil))) [i] σ H Q := by
  refine ⟨n, rfl, by omega, by omega, fun R hR0 => ?_⟩
  have nR := D.ned hR0
  have sR : Same H (upd H R (.lst [])) := Same.new (Same.refl _) hR0
  refine lc_it walk_range (fun i H4 => ∃ (f4 p4 : Int) (cs4 : List Int) (ts : List Addr) (ks : List Wk), DiceAt H4 d sl f4 p4 cs4 ∧ cs4.length = cs.length ∧ Kept [d, sl] H H4 ∧ TupsAt H4 R ts (ks.map Wk.vs) ∧ ks.length = i ∧ ∀ k ∈ ks, WOk n.toNat k)
    ⟨f, p, cs, [], [], D.same sR, rfl, Kept.same sR, ⟨upd_same, rfl, fun j p vs e => by simp at e⟩, rfl, by simp⟩ (fun i H4 _ _ => trivial) ?_ ?_
  · rintro i' x H4 H5 hi ⟨f4, p4, cs4, ts, ks, D4, c4, k4, tp, hl', hx⟩ ⟨rfl, rfl⟩
    refine ⟨wipeA, yes ?_⟩
    refine ⟨_, by rw [lookB hi1]; exact h1, d, sl, f4, p4, cs4, n, rfl, D4, by omega, n1, n6, fun H6 f6 p6 cs6 t k D6 c6 k6 nt ht wk => ?_⟩
    have tk : Tk H5 H6 := Tk.of k6 (fun b hb => by
      have e : b = d ∨ b = sl := by simpa using hb
      rcases e with rfl | rfl
      · exact ⟨_, D4.ob, rfl⟩
      · exact ⟨_, D4.ls, rfl⟩)
    have hR6 := k6 _ _ tp.lst nR
    have tp6 : TupsAt H6 R ts (ks.map Wk.vs) := ⟨hR6, tp.len, fun j y vs e1 e2 => tk _ _ (tp.at_ j y vs e1 e2)⟩
    have Rd : R ≠ d := fun z => nR (by simp [z])
    have Rs : R ≠ sl := fun z => nR (by simp [z])
    have hi : i' < n.toNat := hi
    refine ⟨_, hR6, by rw [List.length_map, tp.len, List.length_map, hl']; exact Nat.lt_of_lt_of_le hi (Nat.le_trans (show n.toNat ≤ 100 by omega) (by decide)), f6, p6, cs6, ts ++ [t], ks ++ [k], ?_, by omega, (k4.trans k6).new hR0, ?_, by simp [hl'], ?_⟩
    · exact ⟨by rw [upd_ne (Ne.symm Rd)]; exact D6.ob, by rw [upd_ne (Ne.symm Rs)]; exact D6.ls, D6.f0, D6.f1, D6.p0, D6.ne⟩
    · have := tp6.push ht
      rw [List.map_append (l₁ := ts)] at this
      rw [List.map_append (l₁ := ks)]
      exact this
    · intro y hy
      rcases List.mem_append.mp hy with hy | hy
      · exact hx y hy
      · have e : y = k := by simpa using hy
        rw [e]
        exact wk
  · rintro H4 ⟨f4, p4, cs4, ts, ks, D4, c4, k4, tp, hl', hx⟩
    exact q _ f4 p4 cs4 R ts ks D4 c4 k4 hR0 tp hl' (fun k hk => by rw [hl']; exact hx k hk)
end
end SB

set_option Elab.async false
set_option linter.all false
set_option maxRecDepth 100000
set_option maxHeartbeats 4000000
namespace SB
open PySem PySem.Spec PyProof.Rows L2
def spLaw22 (K : PySem.W.Frag) : Sp := fun vs H Q _ => ∃ (a : Addr) (ns : List Int), vs = [.ref a] ∧ SqL K H a (ns.map V.int) ∧ ns.length ≤ 63 ∧ ∀ H', Q (.bl true) H'
theorem firstT_some {T : Int → Bool} : ∀ {n : Nat} {lo x : Int}, firstT T lo n = some x → lo ≤ x ∧ x < lo + n ∧ T x = true ∧ ∀ y, lo ≤ y → y < x → T y = false
  | 0, lo, x, h => by cases h
  | n + 1, lo, x, h => by
    have h : (if T lo = true then some lo else firstT T (lo + 1) n) = some x := h
    by_cases q : T lo = true
    · rw [if_pos q] at h
      cases h
      exact ⟨Int.le_refl _, by omega, q, fun y h1 h2 => by omega⟩
    · rw [if_neg q] at h
      obtain ⟨h1, h2, h3, h4⟩ := firstT_some h
      refine ⟨by omega, by omega, h3, fun y y1 y2 => ?_⟩
      by_cases e : y = lo
      · rw [e]
        cases hT : T lo with
        | true => exact absurd hT q
        | false => rfl
      · exact h4 y (by omega) y2
theorem keepT (r : Row) : ∃ z, r.vs[0]? = some (.str z) ∧ ((inV (.str z) [.str "pair", .str "end"] = false ∧ (∀ x y, r ≠ .pair x y) ∧ r ≠ .fin) ∨ inV (.str z) [.str "pair", .str "end"] = true) := by
  cases r <;> first
    | exact ⟨_, rfl, .inl ⟨by decide +kernel, (fun x y z => by cases z), (fun z => by cases z)⟩⟩
    | exact ⟨_, rfl, .inr (by decide +kernel)⟩
theorem okAny {r : Row} {m : Nat} (h1 : ∀ x, r ≠ .go x) (h2 : ∀ x y, r ≠ .iff x y) (h : r.ok m) (n : Nat) : r.ok n := by
  cases r <;> first | exact absurd rfl (h1 _) | exact absurd rfl (h2 _ _) | exact h
section
variable {P : Program} {w : World} {K : PySem.W.Frag} {mg : Str → Option Value} {base : Heap} {H H' : Hp}
theorem okx22 {x qual : Str} {params : Arguments} {body : List Stmt} {scope : Scope} {f : Addr} {fd : FuncData} {N ps : List Str} {k : Nat} {sp : Sp} (F : FunD K x qual params body scope [] [] f fd) (S : FnScope N ps scope)
    (len : ∀ vs H Q E, sp vs H Q E → vs.length = ps.length)
    (hbody : ∀ (cdv : Value) (A : Around) (outer : List Env) (s : Shared) (H : Hp) (vs : List V) (Q : VK) (E : XK), Room k (A.deeper (envOfC qual scope s.heap.objs.size f cdv)) → sp vs H Q E →
      ∃ t, PSs (cxOf CX0 P w K mg base N qual scope f cdv A outer s H E).nox body t ∧ t { nx := fun _ H' => Q .non H', rt := Q } (start N vs) H) : FnOk P w K mg base CX0 (k + 1) f fd ps sp := by
  refine F.ok (CX := CX0) S len (fun cdv A outer s H vs Q E hr hs => ?_)
  obtain ⟨t, h1, h2⟩ := hbody cdv A outer s H vs Q E hr hs
  exact ⟨t, h1.nox, h2⟩
def sp_l_rest_rows (K : PySem.W.Frag) : Sp := fun vs H Q _ => ∃ n : Nat, vs = [.int (n : Int)] ∧ n ≤ 100 ∧ ∀ (H' : Hp) (R : Addr) (rs : List Addr), SqT K H' R (rs.map V.ref) → RowsAt K H' rs (restRows n) → Same H H' → Q (.ref R) H'
theorem ok_l_rest_rows (T : T w K mg) : FnR P w K mg base CX0 1 (He.ga K "_law_rest_rows") (sp_l_rest_rows K) := by
  obtain ⟨fd, F⟩ := T.f_l_rest_rows
  refine F.r sc_l_rest_rows (fun _ _ _ _ _ _ us hl => match us, hl with | [_], _ => rfl) (fun vs H Q E h => ?_) (fun cdv A outer s H vs Q E hr h => ?_)
  · obtain ⟨_, rfl, _⟩ := h
    rfl
  · obtain ⟨n, rfl, hn, q⟩ := h
    refine ⟨_, (pss_one (ps_ret (pe_op op_catA (pe_op op_repA (pe_tup (pa_cons (pe_tup (pa_cons pe_str (pa_cons pe_int pa_nil))) pa_nil)) (pe_op op_fdiv (pv 0) pe_int)) (pe_op op_repA (pe_tup (pa_cons (pe_tup (pa_cons pe_str (pa_cons (pe_op op_mod (pv 0) pe_int) pa_nil))) pa_nil)) (pe_callTy call_int1 rfl T.u_int (by decide +kernel) (pa_cons (pe_cmpR op_gt (pe_op op_mod (pv 0) pe_int) pe_int (nomark _)) pa_nil)))))), ?_⟩
    refine ⟨by show 2 ≤ sizeLine; decide, fun r1 nr1 => ?_⟩
    have s1 : Same H (upd H r1 (.tup [.str "rest", .int 9])) := Same.new (Same.refl _) nr1
    have h1 : upd H r1 (.tup [.str "rest", .int 9]) r1 = some (.tup (Row.rest 9).vs) := upd_same
    generalize upd H r1 (.tup [.str "rest", .int 9]) = H1 at s1 h1
    refine ⟨by show 1 ≤ sizeLine; decide, fun a1 na1 => ?_⟩
    have s2 : Same H1 (upd H1 a1 (.tup [.ref r1])) := Same.new (Same.refl _) na1
    have h2 : upd H1 a1 (.tup [.ref r1]) a1 = some (.tup [.ref r1]) := upd_same
    generalize upd H1 a1 (.tup [.ref r1]) = H2 at s2 h2
    refine ⟨_, rfl, _, _, rfl, rfl, ⟨by decide, by decide⟩, ?_⟩
    refine rep_oneT (SqT.of h2) (by omega) (by omega) (fun H3 p3 hp3 s3 => ?_)
    have e9 : ((n : Int) / 9).toNat = n / 9 := by omega
    rw [e9] at hp3
    have R3 : RowsAt K H3 (List.replicate (n / 9) r1) (List.replicate (n / 9) (.rest 9)) := RowsAt.rep (SqT.of (s3 _ _ (s2 _ _ h1))) _
    refine ⟨_, rfl, _, _, rfl, rfl, (by show (0 : Int) < 9; decide), by show 2 ≤ sizeLine; decide, fun r2 nr2 => ?_⟩
    have em : (n : Int) % 9 = ((n % 9 : Nat) : Int) := by omega
    dsimp only
    rw [em]
    have s4 : Same H3 (upd H3 r2 (.tup [.str "rest", .int ((n % 9 : Nat) : Int)])) := Same.new (Same.refl _) nr2
    have h4 : upd H3 r2 (.tup [.str "rest", .int ((n % 9 : Nat) : Int)]) r2 = some (.tup (Row.rest ((n % 9 : Nat) : Int)).vs) := upd_same
    generalize upd H3 r2 (.tup [.str "rest", .int ((n % 9 : Nat) : Int)]) = H4 at s4 h4
    refine ⟨by show 1 ≤ sizeLine; decide, fun a2 na2 => ?_⟩
    have s5 : Same H4 (upd H4 a2 (.tup [.ref r2])) := Same.new (Same.refl _) na2
    have h5 : upd H4 a2 (.tup [.ref r2]) a2 = some (.tup [.ref r2]) := upd_same
    generalize upd H4 a2 (.tup [.ref r2]) = H5 at s5 h5
    refine ⟨_, rfl, _, _, rfl, rfl, (by show (0 : Int) < 9; decide), _, _, rfl, rfl, .inr ⟨_, rfl, ?_⟩⟩
    refine rep_oneT (SqT.of h5) (by split <;> decide) (by split <;> decide) (fun H6 p6 hp6 s6 => ?_)
    have R6 : RowsAt K H6 (List.replicate (if n % 9 = 0 then 0 else 1) r2) (List.replicate (if n % 9 = 0 then 0 else 1) (.rest ((n % 9 : Nat) : Int))) := RowsAt.rep (SqT.of (s6 _ _ (s5 _ _ h4))) _
    have ek : (if decide ((n : Int) % 9 > 0) = true then (1 : Int) else 0).toNat = if n % 9 = 0 then 0 else 1 := by
      by_cases h : n % 9 = 0
      · rw [if_pos h, if_neg (by simp; omega)]
        rfl
      · rw [if_neg h, if_pos (by simp; omega)]
        rfl
    have hp6' : SqT K H6 p6 ((List.replicate (if n % 9 = 0 then 0 else 1) r2).map V.ref) := by
      rw [← ek]
      exact hp6
    refine cat_anyT (Same.tup ((s4.trans s5).trans s6) hp3) hp6' ?_ (fun H7 p7 hp7 s7 => ?_)
    · rw [List.length_map, List.length_map, List.length_replicate, List.length_replicate]
      exact Nat.le_trans (show _ ≤ 100 by split <;> omega) (by decide)
    have er : restRows n = List.replicate (n / 9) (.rest 9) ++ List.replicate (if n % 9 = 0 then 0 else 1) (.rest ((n % 9 : Nat) : Int)) := by
      unfold restRows
      congr 1
      split <;> rfl
    rw [← List.map_append] at hp7
    refine q H7 p7 _ hp7 ?_ ((((((s1.trans s2).trans s3).trans s4).trans s5).trans s6).trans s7)
    rw [er]
    exact ((R3.same (((s4.trans s5).trans s6).trans s7)).app (R6.same s7))
end
end SB

set_option Elab.async false
set_option linter.all false
set_option maxRecDepth 100000
set_option maxHeartbeats 4000000
namespace SB
open PySem PySem.Spec PyProof.Rows L2
abbrev N22 : List Str := ["_law_script", "_law_d", "_law_memory", "_law_ahead", "_law_program", "_law_row_here", "_law_works", "_law_low", "_law_high", "_law_work_here", "_law_many", "_law_found", "_law_less", "_law_rows", "_law_some", "_law_holds", "_law_k"]
def StrR22 (r : Row) : Prop := (∀ x, r ≠ .go x) ∧ ∀ x y, r ≠ .iff x y
theorem vs_at0 {xs : List V} {v : V} (h : xs[0]? = some v) : atI xs 0 = some v := by
  cases xs with
  | nil => cases h
  | cons x r =>
    unfold atI ixN
    rw [if_pos (by decide), if_pos (by simp)]
    exact h
section
variable {P : Program} {w : World} {K : PySem.W.Frag} {mg : Str → Option Value} {base : Heap} {H H' : Hp}
theorem ok_law (T : T w K mg) {f : Addr} {fd : FuncData} (F : FunD K "law" "law" (defArgs s_law) (defBody s_law) (defScope s_law) [] [] f fd) : FnOk P w K mg base CX0 12 f fd ["_law_script"] (spLaw22 K) := by
  have F_l_dice : FnR P w K mg base CX0 1 _ _ := ok_l_dice T
  have F_l_off : FnR P w K mg base CX0 1 _ _ := ok_l_off T
  have F_l_words : FnR P w K mg base CX0 2 _ _ := ok_l_words T
  have F_l_row : FnR P w K mg base CX0 2 _ _ := ok_l_row T
  have F_l_near : FnR P w K mg base CX0 3 _ _ := ok_l_near T
  have F_l_rest_rows : FnR P w K mg base CX0 1 _ _ := ok_l_rest_rows T
  have F_rests : FnR P w K mg base CX0 11 _ _ := ok_rests T
  have F_leans : FnR P w K mg base CX0 9 _ _ := ok_leans T
  have F_first_torn : FnR P w K mg base CX0 10 _ _ := ok_first_torn T
  refine okx22 F sc_law (fun vs H Q E h => ?_) (fun cdv A outer s H vs Q E hr h => ?_)
  · obtain ⟨_, _, rfl, _⟩ := h
    rfl
  · obtain ⟨a, ns, rfl, hS, h63, q⟩ := h
    have hu := hr.units
    refine ⟨_, (pss_cons (ps_set (i := 1) sc_law.nd rfl (Or.inr rfl) (pe_callR F_l_dice (hr.mono (by decide)) rfl T.g_l_dice T.k_l_dice (pa_cons (pv 0) (pa_cons pe_int pa_nil))))
  (pss_cons (ps_set (i := 2) sc_law.nd rfl (Or.inl rfl) (pe_callR F_l_words (hr.mono (by decide)) rfl T.g_l_words T.k_l_words (pa_cons (pv 1) pa_nil)))
  (pss_cons (ps_set (i := 3) sc_law.nd rfl (Or.inl rfl) (pe_callTy call_tuple_of rfl T.u_tuple (by decide +kernel) (pa_cons (pe_lc (own := [("_law_k", 16)]) (g := gName 16) (tt := tYes) (te := tCallR (sp_l_row K) (tCons (tVar 1) (tCons (tC (.int 9)) (tCons (tC (.bl true)) tNil)))) rfl sc_law.nd (pi_range1 rfl T.u_range (pa_cons (pe_callR F_l_off (hr.mono (by decide)) rfl T.g_l_off T.k_l_off (pa_cons (pv 1) (pa_cons pe_int pa_nil))) pa_nil)) (blkOk_by (N := N22) (sc := defScope s_law) (by decide +kernel)) (fun _ _ _ _ _ => pg_name (i := 16) sc_law.nd rfl (Or.inl rfl)) (fun _ _ _ _ _ => pts_nil) (fun _ _ _ _ _ => pe_callR F_l_row (hr.mono (by decide)) rfl T.g_l_row T.k_l_row (pa_cons (pv 1) (pa_cons pe_int (pa_cons pe_bl pa_nil))))) pa_nil)))
  (pss_cons (ps_set (i := 3) sc_law.nd rfl (Or.inl rfl) (pe_callTy call_tuple_of rfl T.u_tuple (by decide +kernel) (pa_cons (pe_lc (own := [("_law_row_here", 5)]) (g := gName 5) (tt := tTest (tOp (rIn K true) (tOp (rIxT K) (tVar 5) (tC (.int 0))) (tTup (tCons (tC (.str "pair")) (tCons (tC (.str "end")) tNil))))) (te := tVar 5) rfl sc_law.nd (pi_tup (pv 3)) (blkOk_by (N := N22) (sc := defScope s_law) (by decide +kernel)) (fun _ _ _ _ _ => pg_name (i := 5) sc_law.nd rfl (Or.inl rfl)) (fun _ _ _ _ _ => pts_one (pt_cmpR op_notIn_seq (pe_ix ix_tup (pv 5) pe_int (fun _ _ => rfl)) (pe_tup (pa_cons pe_str (pa_cons pe_str pa_nil))) rfl)) (fun _ _ _ _ _ => pv 5)) pa_nil)))
  (pss_cons (ps_set (i := 4) sc_law.nd rfl (Or.inl rfl) (pe_op op_catA (pv 3) (pe_tup (pa_cons (pe_tup (pa_cons pe_str (pa_cons pe_int (pa_cons (pe_callR F_l_off (hr.mono (by decide)) rfl T.g_l_off T.k_l_off (pa_cons (pv 1) (pa_cons pe_int pa_nil))) pa_nil)))) (pa_cons (pe_tup (pa_cons pe_str pa_nil)) pa_nil)))))
  (pss_cons (ps_set (i := 5) sc_law.nd rfl (Or.inl rfl) (pe_callB call_len_seq rfl T.u_len PySem.boot_len (pa_cons (pv 3) pa_nil)))
  (pss_cons (ps_setLc (i := 6) (own := [("_law_k", 16)]) (g := gName 16) (tt := tYes) (te := tCallR (sp_l_near K) (tCons (tVar 1) (tCons (tC (.int 6)) tNil))) rfl sc_law.nd rfl rfl (sw_true rfl rfl rfl (by decide +kernel)) (pi_range1 rfl T.u_range (pa_cons pe_int pa_nil)) (blkOk_by (N := N22) (sc := defScope s_law) (by decide +kernel)) (fun _ _ _ _ _ => pg_name (i := 16) sc_law.nd rfl (Or.inl rfl)) (fun _ _ _ _ _ => pts_nil) (fun _ _ _ _ _ => pe_callR F_l_near (hr.mono (by decide)) rfl T.g_l_near T.k_l_near (pa_cons (pv 1) (pa_cons pe_int pa_nil))))
  (pss_cons (ps_set (i := 7) sc_law.nd rfl (Or.inl rfl) (pe_callR F_l_off (hr.mono (by decide)) rfl T.g_l_off T.k_l_off (pa_cons (pv 1) (pa_cons pe_int pa_nil))))
  (pss_cons (ps_set (i := 8) sc_law.nd rfl (Or.inl rfl) (pe_op op_add (pv 7) (pe_callR F_l_off (hr.mono (by decide)) rfl T.g_l_off T.k_l_off (pa_cons (pv 1) (pa_cons (pe_ix ix_list (pe_lst (pa_cons pe_int (pa_cons pe_int (pa_cons pe_int (pa_cons pe_int (pa_cons pe_int (pa_cons pe_int pa_nil))))))) (pe_callR F_l_off (hr.mono (by decide)) rfl T.g_l_off T.k_l_off (pa_cons (pv 1) (pa_cons pe_int pa_nil))) (fun _ _ => rfl)) pa_nil)))))
  (pss_cons (ps_set (i := 9) sc_law.nd rfl (Or.inl rfl) (pe_callR F_l_off (hr.mono (by decide)) rfl T.g_l_off T.k_l_off (pa_cons (pv 1) (pa_cons pe_int pa_nil))))
  (pss_cons (ps_set (i := 10) sc_law.nd rfl (Or.inl rfl) (pe_callR F_rests (hr.mono (by decide)) rfl T.g_rests T.k_rests (pa_cons (pv 4) (pa_cons (pv 6) (pa_cons (pv 2) (pa_cons (pv 9) (pa_cons (pv 7) (pa_cons (pv 8) (pa_cons (pv 5) pa_nil)))))))))
  (pss_cons (ps_set (i := 11) sc_law.nd rfl (Or.inl rfl) (pe_callR F_leans (hr.mono (by decide)) rfl T.g_leans T.k_leans (pa_cons (pv 4) (pa_cons (pv 6) (pa_cons (pv 2) (pa_cons (pv 9) (pa_cons (pv 7) (pa_cons (pv 8) (pa_cons (pe_tup (pa_cons pe_str (pa_cons (pv 5) pa_nil))) pa_nil)))))))))
  (pss_cons (ps_if (PW.pt (pw_or (pt_cmpR op_ne (pe_cmpR op_eq (pv 10) pe_int (nomark _)) (pe_cmp (pc_isN (pv 11))) (nomark _)) (pw_or1 (pt_cmpR op_ne (pe_callR F_first_torn (hr.mono (by decide)) rfl T.g_first_torn T.k_first_torn (pa_cons (pv 4) (pa_cons (pv 6) (pa_cons (pv 2) (pa_cons (pv 9) (pa_cons (pv 7) (pa_cons (pv 8) pa_nil))))))) (pv 11) (nomark _)))))
  (pss_one (ps_ret pe_bl))
  pss_nil)
  (pss_cons (ps_for PassesOwn.never rfl (pi_range1 rfl T.u_range (pa_cons (pe_op op_mul pe_int (pe_callTy call_int1 rfl T.u_int (by decide +kernel) (pa_cons (pe_cmp (pc_notN (pv 10))) pa_nil))) pa_nil)) (pg_name (i := 12) sc_law.nd rfl (Or.inl rfl))
  (pss_cons (ps_set (i := 13) sc_law.nd rfl (Or.inl rfl) (pe_callR F_l_rest_rows (hr.mono (by decide)) rfl T.g_l_rest_rows T.k_l_rest_rows (pa_cons (pe_callB (call_max2 rfl) rfl T.u_max (by decide +kernel) (pa_cons pe_int (pa_cons (pe_op op_sub (pv 10) (pv 12)) pa_nil))) pa_nil)))
  (pss_cons (ps_set (i := 14) sc_law.nd rfl (Or.inl rfl) (pe_op op_catA (pe_op op_catA (pv 3) (pv 13)) (pe_slice sl_tupA (pv 4) (po_some (pv 5)) po_none)))
  (pss_cons (ps_set (i := 15) sc_law.nd rfl (Or.inl rfl) (pe_cmp (pc_isN (pe_callR F_leans (hr.mono (by decide)) rfl T.g_leans T.k_leans (pa_cons (pv 14) (pa_cons (pv 6) (pa_cons (pv 2) (pa_cons (pv 9) (pa_cons (pv 7) (pa_cons (pv 8) (pa_cons (pe_tup (pa_cons pe_str (pa_cons (pe_op op_add (pv 5) (pe_callB call_len_seq rfl T.u_len PySem.boot_len (pa_cons (pv 13) pa_nil))) pa_nil))) pa_nil)))))))))))
  (pss_one (ps_if (pt_cmpR op_ne (pv 15) (pe_or (pe_cmpR op_eq (pv 12) pe_int (nomark _)) (pe_one (pe_cmpR op_eq (pv 10) pe_int (nomark _)))) (nomark _))
  (pss_one (ps_ret pe_bl))
  pss_nil))))))
  (pss_one (ps_ret pe_bl)))))))))))))))), ?_⟩
    refine ⟨_, rfl, a, ns, 0, rfl, hS, by decide, by decide, h63, fun G0 d sl f1 D1 nd nsl s0' => ?_⟩ -- _law_dice(..)
    refine ⟨_, rfl, d, sl, f1, 0, ns, rfl, D1, h63, fun G1 f1 p1 cs1 ml ws D1 c1 k1 nml hml w4 w32 wok => ?_⟩ -- _law_words(..)
    rename_i D0
    have mlD : ml ∉ [d, sl] := D0.ned nml
    refine ⟨_, rfl, d, sl, f1, p1, cs1, 4, rfl, D1, by omega, by decide, by decide, fun G2 f2 p2 cs2 m0 D2 c2 k2 m00 m01 => ?_⟩ -- off 4
    have hml2 := k2 _ _ hml mlD
    refine ⟨m0, rfl, by omega, by omega, fun R nR => ?_⟩
    have nRD := D2.ned nR
    refine lc_it walk_range (fun i H4 => ∃ (f4 p4 : Int) (cs4 : List Int) (rs : List Addr) (prog : List Row), DiceAt H4 d sl f4 p4 cs4 ∧ cs4.length ≤ 63 ∧ Kept [d, sl] G2 H4 ∧ TupsAt H4 R rs (prog.map Row.vs) ∧ prog.length = i ∧ ∀ r ∈ prog, (∀ x, r ≠ .go x) ∧ (∀ x y, r ≠ .iff x y) ∧ r.ok 9)
      ⟨f2, p2, cs2, [], [], D2.same (Same.new (Same.refl _) nR), by omega, Kept.same (Same.new (Same.refl _) nR), ⟨upd_same, rfl, fun j p vs e => by simp at e⟩, rfl, by simp⟩ (fun i H4 _ _ => trivial) ?_ ?_
    · rintro i x H4 H5 hi ⟨f4, p4, cs4, rs, prog, D4, c4, k4, tp, hl, ok⟩ ⟨rfl, rfl⟩
      refine ⟨rfl, yes ?_⟩
      refine ⟨_, rfl, d, sl, f4, p4, cs4, 9, true, rfl, D4, by omega, by decide, by decide, fun H6 f6 p6 cs6 t r D6 c6 k6 nt ht rok rst => ?_⟩
      have hR6 := k6 _ _ tp.lst nRD
      have tk6 : Tk _ H6 := Tk.of k6 (fun b hb => D4.inD b hb)
      have Rd : R ≠ d := fun z => nRD (by simp [z])
      have Rs : R ≠ sl := fun z => nRD (by simp [z])
      have tp6 : TupsAt H6 R rs (prog.map Row.vs) := ⟨hR6, tp.len, fun j y vs e1 e2 => tk6 _ _ (tp.at_ j y vs e1 e2)⟩
      have him : i < m0.toNat := hi
      refine ⟨_, hR6, by rw [List.length_map, tp.len, List.length_map, hl]; exact Nat.lt_of_lt_of_le him (Nat.le_trans (show m0.toNat ≤ 40 by omega) (by decide)), f6, p6, cs6, rs ++ [t], prog ++ [r], ?_, by omega, (k4.trans k6).new nR, ?_, by simp [hl], fun r' hr' => ?_⟩
      · exact ⟨by rw [upd_ne (Ne.symm Rd)]; exact D6.ob, by rw [upd_ne (Ne.symm Rs)]; exact D6.ls, D6.f0, D6.f1, D6.p0, D6.ne⟩
      · have := tp6.push ht
        rw [List.map_append (l₁ := rs)] at this
        rw [List.map_append (l₁ := prog)]
        exact this
      · rcases List.mem_append.mp hr' with z | z
        · exact ok r' z
        · have e : r' = r := by simpa using z
          rw [e]
          exact ⟨(rst rfl).1, (rst rfl).2, rok⟩
    rintro G3 ⟨f3, p3, cs3, rs, prog0, D3, c3, k3, tp, hl0, ok0⟩
    have hml3 := k3 _ _ hml2 mlD
    refine ⟨_, _, rfl, .inl ⟨SqL.of tp.lst, fun a0 na0 => ?_⟩⟩
    have s4 : Same G3 (upd G3 a0 (.tup (rs.map V.ref))) := Same.new (Same.refl _) na0
    have ha0 : upd G3 a0 (.tup (rs.map V.ref)) a0 = some (.tup (rs.map V.ref)) := upd_same
    generalize upd G3 a0 (.tup (rs.map V.ref)) = G4 at s4 ha0
    have D4 := D3.same s4
    have tp4 := tp.keep s4
    have hml4 := s4 _ _ hml3
    have pl3 : prog0.length ≤ 3 := by rw [hl0]; omega
    have rl : rs.length = prog0.length := by rw [tp.len, List.length_map]
    refine ⟨_, rfl, a0, rfl, ⟨_, SqT.of ha0⟩, fun R5 nR5 => ?_⟩
    refine lc_tup (K := K) (a := a0) (xs := rs.map V.ref) (fun i H5 => ∃ (rs2 : List Addr) (prog2 : List Row), TupsAt H5 R5 rs2 (prog2.map Row.vs) ∧ prog2.length ≤ i ∧ (∀ r ∈ prog2, PlainA r ∧ ∀ n, r.ok n) ∧ Same G4 H5)
      ⟨[], [], ⟨upd_same, rfl, fun j p vs e => by simp at e⟩, Nat.le_refl _, by simp, Same.new (Same.refl _) nR5⟩ (fun i H5 _ ⟨_, _, _, _, _, s5⟩ => SqT.of (s5 _ _ ha0)) ?_ ?_
    · rintro i x H5 hx ⟨rs2, prog2, T5, l5, ok5, s5⟩
      rw [List.getElem?_map] at hx
      cases hp : rs[i]? with
      | none => rw [hp] at hx; cases hx
      | some t =>
        rw [hp] at hx
        cases hx
        have hi : i < prog0.length := by
          have := (List.getElem?_eq_some_iff.mp hp).1
          omega
        have hr0 := List.getElem?_eq_getElem hi
        have ht := s5 _ _ (tp4.at_ i t _ hp (by rw [List.getElem?_map, hr0]; rfl))
        obtain ⟨g1, g2, g3⟩ := ok0 _ (List.mem_of_getElem? hr0)
        generalize prog0[i] = r at ht g1 g2 g3
        refine ⟨rfl, ?_⟩
        obtain ⟨z, hz, hk⟩ := keepT r
        refine ⟨_, rfl, _, _, _, _, rfl, rfl, SqT.of ht, vs_at0 hz, by show 2 ≤ sizeLine; decide, fun e ne => ?_⟩
        have s6 : Same H5 (upd H5 e (.tup [.str "pair", .str "end"])) := Same.new (Same.refl _) ne
        have he : upd H5 e (.tup [.str "pair", .str "end"]) e = some (.tup [.str "pair", .str "end"]) := upd_same
        generalize upd H5 e (.tup [.str "pair", .str "end"]) = H6 at s6 he
        have T6 := T5.keep s6
        refine ⟨_, _, rfl, .inr (SqT.of he), rfl, rfl, _, rfl, ?_⟩
        rcases hk with ⟨hv, n1, n2⟩ | hv
        · rw [if_pos rfl, hv]
          refine iteT ?_
          refine ⟨_, rfl, _, T6.lst, ?_, rs2 ++ [t], prog2 ++ [r], ?_, ?_, ?_, ?_⟩
          · rw [List.length_map, T6.len, List.length_map]
            exact Nat.lt_of_le_of_lt (show _ ≤ 3 by omega) (by decide)
          · have := T6.push (s6 _ _ ht)
            rw [List.map_append (l₁ := rs2)] at this
            rw [List.map_append (l₁ := prog2)]
            exact this
          · rw [List.length_append]
            show prog2.length + 1 ≤ _
            omega
          · intro r' hr'
            rcases List.mem_append.mp hr' with z | z
            · exact ok5 r' z
            · have e : r' = r := by simpa using z
              rw [e]
              exact ⟨⟨g1, g2, n1, n2⟩, okAny g1 g2 g3⟩
          · intro b' o' e'
            rw [upd_ne (ne_of_none e' nR5)]
            exact s6 _ _ (s5 _ _ e')
        · rw [if_pos rfl, hv]
          refine iteF ⟨rs2, prog2, T6, by omega, ok5, s5.trans s6⟩
    rintro G6 ⟨rs2, ahead, T6, l6, okA, s6⟩
    rw [List.length_map] at l6
    have al3 : ahead.length ≤ 3 := by omega
    refine ⟨_, _, rfl, .inl ⟨SqL.of T6.lst, fun a1 na1 => ?_⟩⟩
    have s7 : Same G6 (upd G6 a1 (.tup (rs2.map V.ref))) := Same.new (Same.refl _) na1
    have ha1 : upd G6 a1 (.tup (rs2.map V.ref)) a1 = some (.tup (rs2.map V.ref)) := upd_same
    generalize upd G6 a1 (.tup (rs2.map V.ref)) = G7 at s7 ha1
    have T7 := T6.keep s7
    have PA7 : ProgAt K G7 a1 rs2 ahead := ⟨SqT.of ha1, by rw [T6.len, List.length_map], fun j t r e1 e2 => SqT.of (T7.at_ j t _ e1 (by rw [List.getElem?_map, e2]; rfl))⟩
    have D7 := (D4.same s6).same s7
    have hml7 := s7 _ _ (s6 _ _ hml4)
    clear T6 T7 ha1 tp4 ha0 hml4 D4 na1 nR5 tp hml3 D3 k3 hml2 D2 k2 nR nRD s4 s6 s7 k1
    dsimp only [gName]
    show tSeq _ _ _ [some (.ref a), some (.ref d), some (.ref ml), some (.ref a1), none, none, none, none, none, none, none, none, none, none, none, none, none] G7
    refine ⟨_, rfl, _, rfl, d, sl, f3, p3, cs3, 8, rfl, D7, by omega, by decide, by decide, fun G8 f8 p8 cs8 u D8 c8 k8 u0 u1 => ?_⟩ -- off 8
    have PA8 := PA7.keep k8 D7.inD
    have hml8 := k8 _ _ hml7 mlD
    refine ⟨by show 3 ≤ sizeLine; decide, fun t1 nt1 => ?_⟩
    have q1 : Same G8 (upd G8 t1 (.tup [.str "pair", .int 0, .int u])) := Same.new (Same.refl _) nt1
    have ht1 : upd G8 t1 (.tup [.str "pair", .int 0, .int u]) t1 = some (.tup (Row.pair 0 u).vs) := upd_same
    generalize upd G8 t1 (.tup [.str "pair", .int 0, .int u]) = G9 at q1 ht1
    refine ⟨by show 1 ≤ sizeLine; decide, fun t2 nt2 => ?_⟩
    have q2 : Same G9 (upd G9 t2 (.tup [.str "end"])) := Same.new (Same.refl _) nt2
    have ht2 : upd G9 t2 (.tup [.str "end"]) t2 = some (.tup Row.fin.vs) := upd_same
    generalize upd G9 t2 (.tup [.str "end"]) = G10 at q2 ht2
    refine ⟨by show 2 ≤ sizeLine; decide, fun t3 nt3 => ?_⟩
    have q3 : Same G10 (upd G10 t3 (.tup [.ref t1, .ref t2])) := Same.new (Same.refl _) nt3
    have ht3 : upd G10 t3 (.tup [.ref t1, .ref t2]) t3 = some (.tup [.ref t1, .ref t2]) := upd_same
    generalize upd G10 t3 (.tup [.ref t1, .ref t2]) = G11 at q3 ht3
    have q13 := (q1.trans q2).trans q3
    have PA11 := PA8.same q13
    obtain ⟨behind, hbh⟩ : ∃ b : List Row, b = [.pair 0 u, .fin] := ⟨_, rfl⟩
    have PB11 : RowsAt K G11 [t1, t2] behind := by
      rw [hbh]
      exact (RowsAt.one (SqT.of ((q2.trans q3) _ _ ht1))).app (RowsAt.one (SqT.of (q3 _ _ ht2)))
    have bl : behind.length = 2 := by rw [hbh]; rfl
    refine cat_anyT PA11.tup (SqT.of ht3) ?_ (fun G12 pa hpa q4 => ?_)
    · rw [List.length_map, PA11.len]
      exact Nat.le_trans (show ahead.length + 2 ≤ 100 by omega) (by decide)
    have q14 := q13.trans q4
    have PA12 := PA11.same q4
    have PB12 := PB11.same q4
    have Pr12 : ProgAt K G12 pa (rs2 ++ [t1, t2]) (ahead ++ behind) := (PA12.rows.app PB12).prog (by rw [List.map_append]; exact hpa)
    have D12 := D8.same q14
    have hml12 := q14 _ _ hml8
    refine ⟨_, rfl, _, _, rfl, .inr PA12.tup, ?_⟩
    rw [List.length_map, PA12.len]
    clear PB11 PA11 PA8 hpa ht3 ht2 ht1 hml8 hml7 PA7 q1 q2 q3 q13 q4 q14 D7 k8
    dsimp only [gName]
    show tSeq _ _ _ [some (.ref a), some (.ref d), some (.ref ml), some (.ref a1), some (.ref pa), some (.int (ahead.length : Nat)), none, none, none, none, none, none, none, none, none, none, none] G12
    refine seqL (asgL ?_)
    refine near_lc (d := d) (sl := sl) (by show 16 < 17; decide) (by decide) (by rfl) D12 (by omega) (by decide) (by decide) (fun G13 f13 p13 cs13 wl ts ks D13 c13 k13 nwl W13 kl6 kok => ?_)
    have wlD : wl ∉ [d, sl] := D12.ned nwl
    have Pr13 := Pr12.keep k13 D12.inD
    have PA13 := PA12.keep k13 D12.inD
    have PB13 : RowsAt K G13 [t1, t2] behind := by
      have := Pr13.rows.drop ahead.length
      have e1 : (rs2 ++ [t1, t2]).drop ahead.length = [t1, t2] := by rw [← PA12.len]; exact List.drop_left
      have e2 : (ahead ++ behind).drop ahead.length = behind := List.drop_left
      rw [e1, e2] at this
      exact this
    have hml13 := k13 _ _ hml12 mlD
    have ks6 : ks.length = 6 := kl6
    dsimp only [gName]
    show tSeq _ _ _ [some (.ref a), some (.ref d), some (.ref ml), some (.ref a1), some (.ref pa), some (.int (ahead.length : Nat)), some (.ref wl), none, none, none, none, none, none, none, none, none, none] G13
    refine ⟨_, rfl, d, sl, f13, p13, cs13, 12, rfl, D13, by omega, by decide, by decide, fun G14 f14 p14 cs14 lo D14 c14 k14 lo0 lo1 => ?_⟩ -- low
    refine ⟨_, rfl, _, rfl, by show 6 ≤ sizeLine; decide, fun bl6 nbl6 => ?_⟩
    have sB : Same G14 (upd G14 bl6 (.lst [.int 3, .int 3, .int 3, .int 9, .int 3, .int 20])) := Same.new (Same.refl _) nbl6
    have hB : upd G14 bl6 (.lst [.int 3, .int 3, .int 3, .int 9, .int 3, .int 20]) bl6 = some (.lst [.int 3, .int 3, .int 3, .int 9, .int 3, .int 20]) := upd_same
    generalize upd G14 bl6 (.lst [.int 3, .int 3, .int 3, .int 9, .int 3, .int 20]) = G15 at sB hB
    have D15 := D14.same sB
    have blD := D14.ned nbl6
    refine ⟨_, rfl, d, sl, f14, p14, cs14, 6, rfl, D15, by omega, by decide, by decide, fun G16 f16 p16 cs16 v D16 c16 k16 v0 v1 => ?_⟩
    obtain ⟨mx, hmx, mx0, mx1⟩ : ∃ mx : Int, atI ([.int 3, .int 3, .int 3, .int 9, .int 3, .int 20] : List V) v = some (.int mx) ∧ 0 < mx ∧ mx ≤ 20 := by
      have : v = 0 ∨ v = 1 ∨ v = 2 ∨ v = 3 ∨ v = 4 ∨ v = 5 := by omega
      rcases this with rfl | rfl | rfl | rfl | rfl | rfl <;> exact ⟨_, rfl, by decide, by decide⟩
    refine ⟨_, _, _, _, rfl, rfl, SqL.of (k16 _ _ hB blD), hmx, ?_⟩
    refine ⟨d, sl, f16, p16, cs16, mx, rfl, D16, by omega, by omega, by omega, fun G17 f17 p17 cs17 hx D17 c17 k17 hx0 hx1 => ?_⟩
    refine ⟨_, _, rfl, rfl, ?_⟩
    refine ⟨_, rfl, d, sl, f17, p17, cs17, 6, rfl, D17, by omega, by decide, by decide, fun G18 f18 p18 cs18 wk D18 c18 k18 wk0 wk1 => ?_⟩ -- work
    have kk : Kept [d, sl] G13 G18 := (((k14.trans (Kept.same sB)).trans k16).trans k17).trans k18
    have inD := D13.inD
    have Pr18 := Pr13.keep kk inD
    have PA18 := PA13.keep kk inD
    have W18 := W13.kept kk wlD inD
    have hml18 := kk _ _ hml13 mlD
    have PB18 : RowsAt K G18 [t1, t2] behind := by
      have := Pr18.rows.drop ahead.length
      have e1 : (rs2 ++ [t1, t2]).drop ahead.length = [t1, t2] := by rw [← PA12.len]; exact List.drop_left
      have e2 : (ahead ++ behind).drop ahead.length = behind := List.drop_left
      rw [e1, e2] at this
      exact this
    obtain ⟨hi, hhi⟩ : ∃ hi : Int, hi = lo + hx := ⟨_, rfl⟩
    dsimp only [gName]
    rw [← hhi]
    show tSeq _ _ _ [some (.ref a), some (.ref d), some (.ref ml), some (.ref a1), some (.ref pa), some (.int (ahead.length : Nat)), some (.ref wl), some (.int lo), some (.int hi), some (.int wk), none, none, none, none, none, none, none] G18
    clear Pr13 PA13 PB13 W13 hml13 hB D14 D15 D16 D13 D12 Pr12 PA12 PB12 hml12 kk k14 k16 k17 k18 sB inD k13
    have WN : Win wk lo hi ks.length := ⟨by omega, by omega, ⟨by omega, by omega⟩, ⟨by omega, by omega⟩, by omega, by omega⟩
    have okB : ∀ r ∈ behind, StrR22 r ∧ ∀ n, r.ok n := fun r hr => by
      rw [hbh] at hr
      have hr' : r = .pair 0 u ∨ r = .fin := by simpa using hr
      rcases hr' with e | e <;> rw [e]
      · exact ⟨⟨(fun x z => by cases z), (fun x y z => by cases z)⟩, fun n => ⟨⟨by decide, by decide⟩, ⟨u0, by show u ≤ 31; omega⟩⟩⟩
      · exact ⟨⟨(fun x z => by cases z), (fun x y z => by cases z)⟩, fun n => trivial⟩
    have SB : StB ahead behind := ⟨fun r hr => (okA r hr).1, fun r hr => (okB r hr).1⟩
    have okRs : ∀ n, n ≤ 40 → ∀ r ∈ restRows n, StrR22 r ∧ ∀ m, r.ok m := fun n hn r hr => by
      unfold restRows at hr
      rcases List.mem_append.mp hr with z | z
      · rw [(List.mem_replicate.mp z).2]
        exact ⟨⟨(fun x z => by cases z), (fun x y z => by cases z)⟩, fun m => ⟨by decide, by decide⟩⟩
      · split at z
        · cases z
        · have e : r = .rest ((n % 9 : Nat) : Int) := by simpa using z
          rw [e]
          exact ⟨⟨(fun x z => by cases z), (fun x y z => by cases z)⟩, fun m => ⟨by show (1 : Int) ≤ _; omega, by show _ ≤ (9 : Int); omega⟩⟩
    have okP : ∀ n, n ≤ 40 → ∀ r ∈ restsP ahead behind n, StrR22 r ∧ ∀ m, r.ok m := fun n hn r hr => by
      unfold restsP at hr
      rcases List.mem_append.mp hr with z | z
      · rcases List.mem_append.mp z with z | z
        · exact ⟨⟨(okA r z).1.1, (okA r z).1.2.1⟩, (okA r z).2⟩
        · exact okRs n hn r z
      · exact okB r z
    have e0 : ahead ++ behind = restsP ahead behind 0 := by
      show _ = (ahead ++ []) ++ behind
      rw [List.append_nil]
    have good : ∀ {H' : Hp} {p' : Addr} {rs' : List Addr} {n : Nat}, n ≤ 40 → ProgAt K H' p' rs' (restsP ahead behind n) → Same G18 H' → GoodW K H' p' wl ml rs' ts (restsP ahead behind n) ks ws := fun {H' p' rs' n} hn Pr s' => by
      have hlen := restsP_len (ahead := ahead) (behind := behind) (n := n)
      have hm : restM n ≤ 5 := by
        unfold restM
        split <;> omega
      exact ⟨Pr, by rw [hlen, bl]; omega, by rw [hlen, bl]; omega, fun r hr => (okP n hn r hr).2 _, (W18.keep s').works, by omega, kok, SqL.of (s' _ _ hml18), w4, w32, wok⟩
    have pairAt : ∀ n, (restsP ahead behind n)[ahead.length + restM n]? = some (.pair 0 u) := fun n => by
      have := atB3 (ahead := ahead) (behind := behind) (n := n) (j := 0)
      rw [Nat.add_zero] at this
      rw [this, hbh]
      rfl
    have take0 : (restsP ahead behind 0).take ahead.length = ahead := by rw [← e0]; exact List.take_left
    have drop0 : (restsP ahead behind 0).drop ahead.length = behind := by rw [← e0]; exact List.drop_left
    have rowp0 : (restsP ahead behind 0)[ahead.length]? = some (.pair 0 u) := pairAt 0
    rw [e0] at Pr18
    have GW := good (n := 0) (by omega) Pr18 (Same.refl _)
    have St0 : StrP (restsP ahead behind 0) := fun r hr => (okP 0 (by omega) r hr).1
    refine ⟨_, rfl, _, rfl, _, rfl, _, rfl, _, rfl, _, rfl, _, rfl, pa, wl, ml, _, ts, restsP ahead behind 0, ks, ws, wk, lo, hi, ahead.length, 0, u, rfl, GW, WN, St0, rowp0, fun G19 s19 => ?_⟩ -- rests(..)
    rw [take0, drop0]
    obtain ⟨N, hN⟩ : ∃ N : Nat, N = (hi + 1 - lo).toNat := ⟨_, rfl⟩
    rw [← hN]
    generalize hM : firstT (fewT ahead behind ks ws wk lo N) 0 41 = M
    dsimp only [gName]
    show tSeq _ _ _ [some (.ref a), some (.ref d), some (.ref ml), some (.ref a1), some (.ref pa), some (.int (ahead.length : Nat)), some (.ref wl), some (.int lo), some (.int hi), some (.int wk), some (oV M), none, none, none, none, none, none] G19
    refine ⟨_, rfl, _, rfl, _, rfl, _, rfl, _, rfl, _, rfl, _, rfl, by show 2 ≤ sizeLine; decide, fun ca nca => ?_⟩
    have s20 : Same G19 (upd G19 ca (.tup [.str "whole", .int (ahead.length : Nat)])) := Same.new (Same.refl _) nca
    have hca : upd G19 ca (.tup [.str "whole", .int (ahead.length : Nat)]) ca = some (.tup (Clm.whole (ahead.length : Nat)).vs) := upd_same
    generalize upd G19 ca (.tup [.str "whole", .int (ahead.length : Nat)]) = G20 at s20 hca
    refine ⟨pa, wl, ml, ca, _, ts, restsP ahead behind 0, ks, ws, wk, lo, hi, .whole (ahead.length : Nat), rfl, GW.same (s19.trans s20), WN, SqT.of hca, ⟨by omega, 0, u, by rw [Int.toNat_natCast]; exact rowp0⟩, fun G21 s21 => ?_⟩ -- leans(..)
    rw [← hN]
    generalize hF : firstT (fun b => !holdsAt (restsP ahead behind 0) ks ws wk (.whole ((ahead.length : Nat) : Int)) b) lo N = F
    have s1821 := (s19.trans s20).trans s21
    dsimp only [gName]
    show tSeq _ _ _ [some (.ref a), some (.ref d), some (.ref ml), some (.ref a1), some (.ref pa), some (.int (ahead.length : Nat)), some (.ref wl), some (.int lo), some (.int hi), some (.int wk), some (oV M), some (oV F), none, none, none, none, none] G21
    /- what they say of one another -/
    have few : ∀ n : Nat, fewT ahead behind ks ws wk lo N (n : Int) = allWhole (restsP ahead behind n) ks ws wk ((ahead.length + restM n : Nat) : Int) lo N := fun n => by
      rw [allWhole22 SB]
      unfold fewT
      rw [Int.toNat_natCast]
    have leanN : ∀ n : Nat, (firstT (fun b => !holdsAt (restsP ahead behind n) ks ws wk (.whole ((ahead.length + restM n : Nat) : Int)) b) lo N = none) ↔ fewT ahead behind ks ws wk lo N (n : Int) = true := fun n => by
      rw [firstT_allWhole, few]
    have F0 : F = none ↔ fewT ahead behind ks ws wk lo N 0 = true := by
      rw [← hF]
      exact leanN 0
    have M0 : M = some 0 ↔ fewT ahead behind ks ws wk lo N 0 = true := by
      rw [← hM]
      show (if fewT ahead behind ks ws wk lo N 0 = true then some 0 else firstT (fewT ahead behind ks ws wk lo N) (0 + 1) 40) = some 0 ↔ _
      by_cases h : fewT ahead behind ks ws wk lo N 0 = true
      · rw [if_pos h]
        exact ⟨fun _ => h, fun _ => rfl⟩
      · rw [if_neg h]
        refine ⟨fun z => ?_, fun z => absurd z h⟩
        have := (firstT_some z).1
        omega
    have MF : decide (oV M = V.int 0) = decide (oV F = V.non) := by
      have h1 : oV M = V.int 0 ↔ M = some 0 := by
        cases M with
        | none => exact ⟨fun z => (by cases z), fun z => (by cases z)⟩
        | some m => exact ⟨fun z => by rw [V.int.inj z], fun z => by cases z; rfl⟩
      have h2 : oV F = V.non ↔ F = none := by
        cases F with
        | none => exact ⟨fun _ => rfl, fun _ => rfl⟩
        | some m => exact ⟨fun z => (by cases z), fun z => (by cases z)⟩
      by_cases h : fewT ahead behind ks ws wk lo N 0 = true
      · rw [decide_eq_true (h1.mpr (M0.mpr h)), decide_eq_true (h2.mpr (F0.mpr h))]
      · rw [decide_eq_false (fun z => h (M0.mp (h1.mp z))), decide_eq_false (fun z => h (F0.mp (h2.mp z)))]
    have scI : ∀ (o : Option Int) (i : Int), scal (oV o) (.int i) = true := fun o i => by cases o <;> rfl
    have scO : ∀ o o' : Option Int, scal (oV o) (oV o') = true := fun o o' => by cases o <;> cases o' <;> rfl
    refine ⟨_, rfl, scI _ _, _, rfl, rfl, _, rfl, ?_⟩
    rw [MF]
    have e9 : ∀ b : Bool, (!decide (V.bl b = V.bl b)) = false := fun b => by simp
    rw [e9]
    refine iteF ?_
    refine ⟨_, rfl, _, rfl, _, rfl, _, rfl, _, rfl, _, rfl, pa, wl, ml, _, ts, restsP ahead behind 0, ks, ws, wk, lo, hi, rfl, GW.same s1821, WN, fun G22 s22 => ?_⟩ -- first_torn(..)
    rw [← hN]
    have O0 : ∀ b : Int, HOk (HS.at0 (restsP ahead behind 0) [(b, wk)] ks ws) := fun b => by
      have O := at0_ok (as := []) (ws := ws) GW.pok GW.k6 GW.kok GW.w4 ⟨by show 0 ≤ 8; decide, fun x hx => (by cases hx), fun i x y h1 => (by simp at h1)⟩
      exact ⟨O.m, O.w0, O.k, fun x hx => by
        have hx : x ∈ [(b, wk)] := hx
        have e : x = (b, wk) := by simpa using hx
        rw [e]
        exact wk0, by show 1 ≤ 8; decide, O.l6⟩
    have only : ∀ (i : Nat) (x y : Int), (restsP ahead behind 0)[i]? = some (.pair x y) → (i : Int) = ((ahead.length : Nat) : Int) := fun i x y h => by
      rw [← e0] at h
      by_cases hi : i < ahead.length
      · rw [List.getElem?_append_left hi] at h
        exact absurd rfl ((okA _ (List.mem_of_getElem? h)).1.2.2.1 x y)
      · rw [List.getElem?_append_right (by omega), hbh] at h
        have h2 : i - ahead.length = 0 ∨ i - ahead.length = 1 ∨ 2 ≤ i - ahead.length := by omega
        rcases h2 with z | z | z
        · omega
        · rw [z] at h
          cases h
        · rw [List.getElem?_eq_none (by show 2 ≤ _; exact z)] at h
          cases h
    have eT : firstT (tornAt (restsP ahead behind 0) ks ws wk) lo N = F := by
      rw [← hF]
      exact firstT_congr (fun b => torn_whole only (O0 b))
    rw [eT]
    refine ⟨_, rfl, scO _ _, _, rfl, ?_⟩
    rw [decide_eq_true rfl]
    refine iteF ?_
    have s1822 := s1821.trans s22
    clear MF M0 only O0 scO eT hF
    dsimp only [tNext]
    refine seqL ?_
    refine ⟨_, rfl, .inr ⟨_, rfl, ?_⟩⟩
    obtain ⟨c, hc, c0, c2, cM⟩ : ∃ c : Int, 2 * (if (!decide (oV M = V.non)) = true then (1 : Int) else 0) = c ∧ 0 ≤ c ∧ c ≤ 2 ∧ (0 < c → ∃ m, M = some m) := by
      cases hM' : M with
      | none => exact ⟨0, rfl, by decide, by decide, fun z => absurd z (by decide)⟩
      | some m => exact ⟨2, rfl, by decide, by decide, fun _ => ⟨m, rfl⟩⟩
    refine ⟨_, _, rfl, rfl, .inl ⟨by decide, by decide⟩, c, congrArg (fun z => [V.int z]) hc, by omega, by omega, ?_⟩
    refine for_it walk_range (fun i σ H5 => ∃ u12 u13 u14 u15, σ = [some (.ref a), some (.ref d), some (.ref ml), some (.ref a1), some (.ref pa), some (.int (ahead.length : Nat)), some (.ref wl), some (.int lo), some (.int hi), some (.int wk), some (oV M), some (oV F), u12, u13, u14, u15, none] ∧ Same G18 H5)
      ⟨_, _, _, _, rfl, s1822⟩ (fun _ _ _ _ _ => trivial) ?_ ?_
    rotate_left
    · intro σ H5 _
      exact q _
    rintro i x σ H5 H5' hi' ⟨u12, u13, u14, u15, rfl, s5⟩ ⟨rfl, rfl⟩
    have hic : i < c.toNat := hi'
    obtain ⟨m, rfl⟩ := cM (by omega)
    obtain ⟨m0, m40, mT, mF⟩ := firstT_some hM
    obtain ⟨n, hn⟩ : ∃ n : Nat, (if m - (0 + (i : Int)) > 0 then m - (0 + (i : Int)) else 0) = (n : Int) ∧ (n : Int) ≤ 40 ∧ (i = 0 → (n : Int) = m) ∧ (i = 1 → m = 0 → n = 0) ∧ (i = 1 → m ≠ 0 → (n : Int) = m - 1) := by
      refine ⟨(m - (0 + (i : Int))).toNat, ?_, by omega, by omega, by omega, by omega⟩
      split <;> omega
    obtain ⟨en, n40, n1, n2, n3⟩ := hn
    refine ⟨_, rfl, _, rfl, _, _, rfl, rfl, _, _, rfl, ?_⟩
    rw [en]
    refine ⟨n, rfl, by omega, fun H6 R6 rr hR6 RR6 s6 => ?_⟩ -- _law_rest_rows(..)
    have rrl : rr.length = restM n := by rw [RR6.len, restRows_len]
    dsimp only [gName]
    show tSeq _ _ _ [some (.ref a), some (.ref d), some (.ref ml), some (.ref a1), some (.ref pa), some (.int (ahead.length : Nat)), some (.ref wl), some (.int lo), some (.int hi), some (.int wk), some (oV (some m)), some (oV F), some (.int (0 + (i : Int))), some (.ref R6), u14, u15, none] H6
    have s186 := s5.trans s6
    refine ⟨_, rfl, _, rfl, ?_⟩
    refine cat_anyT ((PA18.same s186).tup) hR6 ?_ (fun H7 p7 hp7 s7 => ?_)
    · rw [List.length_map, List.length_map, PA18.len, rrl]
      have : restM n ≤ 5 := by
        unfold restM
        split <;> omega
      exact Nat.le_trans (show _ ≤ 100 by omega) (by decide)
    refine ⟨_, rfl, _, rfl, _, rfl, ?_⟩
    dsimp only [tNoPart]
    refine sl_loT (n := ahead.length) ((Pr18.same (s186.trans s7)).tup) (fun H8 p8 hp8 s8 => ?_)
    have ed : ((rs2 ++ [t1, t2]).map V.ref).drop ahead.length = [t1, t2].map V.ref := by
      rw [← List.map_drop, ← PA18.len]
      congr 1
      exact List.drop_left
    rw [ed] at hp8
    refine cat_anyT (Same.tup s8 hp7) hp8 ?_ (fun H9 p9 hp9 s9 => ?_)
    · rw [List.length_append, List.length_map, List.length_map, PA18.len, rrl]
      have : restM n ≤ 5 := by
        unfold restM
        split <;> omega
      exact Nat.le_trans (show _ ≤ 100 by show ahead.length + restM n + 2 ≤ 100; omega) (by decide)
    have s69 := (s7.trans s8).trans s9
    have s189 := s186.trans s69
    rw [← List.map_append, ← List.map_append] at hp9
    have Pr9 : ProgAt K H9 p9 ((rs2 ++ rr) ++ [t1, t2]) (restsP ahead behind n) := (((PA18.same s189).rows.app (RR6.same s69)).app (PB18.same s189)).prog hp9
    dsimp only [gName]
    show tSeq _ _ _ [some (.ref a), some (.ref d), some (.ref ml), some (.ref a1), some (.ref pa), some (.int (ahead.length : Nat)), some (.ref wl), some (.int lo), some (.int hi), some (.int wk), some (oV (some m)), some (oV F), some (.int (0 + (i : Int))), some (.ref R6), some (.ref p9), u15, none] H9
    refine ⟨_, rfl, _, rfl, _, rfl, _, rfl, _, rfl, _, rfl, _, rfl, _, rfl, _, _, rfl, .inr (Same.tup s69 hR6), ?_⟩
    rw [List.length_map, rrl]
    refine ⟨_, _, rfl, rfl, by show 2 ≤ sizeLine; decide, fun cb ncb => ?_⟩
    have ec : ((ahead.length : Nat) : Int) + ((restM n : Nat) : Int) = ((ahead.length + restM n : Nat) : Int) := by omega
    dsimp only
    rw [ec]
    have s10 : Same H9 (upd H9 cb (.tup [.str "whole", .int ((ahead.length + restM n : Nat) : Int)])) := Same.new (Same.refl _) ncb
    have hcb : upd H9 cb (.tup [.str "whole", .int ((ahead.length + restM n : Nat) : Int)]) cb = some (.tup (Clm.whole ((ahead.length + restM n : Nat) : Int)).vs) := upd_same
    generalize upd H9 cb (.tup [.str "whole", .int ((ahead.length + restM n : Nat) : Int)]) = H10 at s10 hcb
    refine ⟨p9, wl, ml, cb, _, ts, restsP ahead behind n, ks, ws, wk, lo, hi, .whole ((ahead.length + restM n : Nat) : Int), rfl, good (by omega) (Pr9.same s10) (s189.trans s10), WN, SqT.of hcb, ⟨by omega, 0, u, by rw [Int.toNat_natCast]; exact pairAt n⟩, fun H11 s11 => ?_⟩ -- leans(..)
    rw [← hN]
    have LN := leanN n
    generalize firstT (fun b => !holdsAt (restsP ahead behind n) ks ws wk (.whole ((ahead.length + restM n : Nat) : Int)) b) lo N = F2 at LN
    dsimp only [gName]
    show tIfS _ _ _ _ [some (.ref a), some (.ref d), some (.ref ml), some (.ref a1), some (.ref pa), some (.int (ahead.length : Nat)), some (.ref wl), some (.int lo), some (.int hi), some (.int wk), some (oV (some m)), some (oV F), some (.int (0 + (i : Int))), some (.ref R6), some (.ref p9), some (.bl (decide (oV F2 = V.non))), none] H11
    have dF : decide (oV F2 = V.non) = fewT ahead behind ks ws wk lo N (n : Int) := by
      have h2 : oV F2 = V.non ↔ F2 = none := by
        cases F2 with
        | none => exact ⟨fun _ => rfl, fun _ => rfl⟩
        | some m => exact ⟨fun z => (by cases z), fun z => (by cases z)⟩
      by_cases h : fewT ahead behind ks ws wk lo N (n : Int) = true
      · rw [decide_eq_true (h2.mpr (LN.mpr h)), h]
      · rw [decide_eq_false (fun z => h (LN.mp (h2.mp z)))]
        cases hb : fewT ahead behind ks ws wk lo N (n : Int) with
        | true => exact absurd hb h
        | false => rfl
    rw [dF]
    have fin : ∃ u12 u13 u14 u15, [some (.ref a), some (.ref d), some (.ref ml), some (.ref a1), some (.ref pa), some (.int (ahead.length : Nat)), some (.ref wl), some (.int lo), some (.int hi), some (.int wk), some (oV (some m)), some (oV F), some (.int (0 + (i : Int))), some (.ref R6), some (.ref p9), some (.bl (fewT ahead behind ks ws wk lo N (n : Int))), none] = [some (.ref a), some (.ref d), some (.ref ml), some (.ref a1), some (.ref pa), some (.int (ahead.length : Nat)), some (.ref wl), some (.int lo), some (.int hi), some (.int wk), some (oV (some m)), some (oV F), u12, u13, u14, u15, none] ∧ Same G18 H11 := ⟨_, _, _, _, rfl, (s189.trans s10).trans s11⟩
    have e9 : ∀ b : Bool, (!decide (V.bl b = V.bl b)) = false := fun b => by simp
    refine ⟨_, rfl, _, rfl, rfl, _, rfl, ?_⟩
    have hi2 : i = 0 ∨ i = 1 := by omega
    rcases hi2 with z | z
    · have hT : fewT ahead behind ks ws wk lo N (n : Int) = true := by rw [n1 z]; exact mT
      subst z
      refine iteT ?_
      refine ⟨rfl, _, rfl, ?_⟩
      rw [hT] at fin ⊢
      exact iteF fin
    · subst z
      refine iteF ?_
      by_cases zm : m = 0
      · have hT : fewT ahead behind ks ws wk lo N (n : Int) = true := by
          have mT' := mT
          rw [zm] at mT'
          rw [n2 rfl zm]
          exact mT'
        refine ⟨_, rfl, rfl, rfl, _, rfl, ?_⟩
        rw [hT] at fin ⊢
        have e8 : decide (oV (some m) = V.int 0) = true := by rw [zm]; rfl
        rw [e8]
        exact iteF fin
      · have hT : fewT ahead behind ks ws wk lo N (n : Int) = false := by
          rw [n3 rfl zm]
          exact mF _ (by omega) (by omega)
        refine ⟨_, rfl, rfl, rfl, _, rfl, ?_⟩
        rw [hT] at fin ⊢
        have e8 : decide (oV (some m) = V.int 0) = false := decide_eq_false (fun z => zm (V.int.inj z))
        rw [e8]
        exact iteF fin
end
end SB

set_option Elab.async false
set_option linter.all false
set_option maxRecDepth 100000
set_option maxHeartbeats 0
open PySem PySem.W PySem.Calls PyProof.Rows
theorem PySem.Challenge.cw_stealbeats_k22_whole_rests_are_enough_holds : PySem.Challenge.rw_stealbeats_k22_whole_rests_are_enough.Holds := by
  w_on; o_law
  refine HandSHeadRun.head_any (r := OpenLaw.row PySem.Challenge.rw_stealbeats_k22_whole_rests_are_enough) (q := view (OpenLaw.row PySem.Challenge.rw_stealbeats_k22_whole_rests_are_enough).prog [76]) (H := SB.hk) (ob := SB.ob) (M := 6000) (loose := SB.loose) (d := HandSHeadRun.topDef (OpenLaw.row PySem.Challenge.rw_stealbeats_k22_whole_rests_are_enough).prog 76) (kwd := []) SB.ob_eq
    (by kernel_rfl) (fun s => by kernel_rfl) SB.run (by kernel_rfl) (by kernel_rfl) (by kernel_rfl) (by rfl) (by first | assumption | decide +kernel) (by decide +kernel) ⟨rfl, rfl, rfl, rfl, rfl, by decide +kernel⟩ ?hw ?hc
  case hw => w_witness2
  case hc =>
    refine L2.walk_ofE (l := PySem.Challenge.rw_stealbeats_k22_whole_rests_are_enough) (n := 63) (k := 12) (x := "_law_script") (CX := L2.CX0) rfl (by decide) (by kernel_rfl) ⟨rfl, by decide, by decide⟩ ?F (fun _ _ _ _ z => z)
    intro w mg fa h Y G hmg0
    obtain ⟨K, KX, c⟩ := Y
    have hmg : mg ("law" : PySem.Str) = some (.ref fa) := by
      have e : (HandSHeadRun.topDef (OpenLaw.row PySem.Challenge.rw_stealbeats_k22_whole_rests_are_enough).prog 76).name = ("law" : PySem.Str) := by kernel_rfl
      rw [← e]
      exact hmg0
    have T := SB.mkT KX G c
    have e := hmg.symm.trans T.g_law
    cases e
    obtain ⟨fd, F⟩ := T.f_law
    have b := L2.FunD.bindsA (ps := ["_law_script"]) F fun _ _ _ _ _ _ us hl => match us, hl with | [_], _ => rfl
    exact ⟨K, fd, SB.spLaw22 K, KX, fun s v => b s [v] rfl, fun H a ns hl _ hS => ⟨a, ns, rfl, hS, hl, fun _ => rfl⟩, fun base _ _ => SB.ok_law T F⟩

