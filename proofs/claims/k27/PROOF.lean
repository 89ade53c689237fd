import PyProof.Rows.All
import Wide.All
import OpenK.AllK
import Wide.FinOn
import HandS.Base
import HandS.Call
import HandS.List
import HandS.Words
import KE.GoesEnum
import HandS.Iter
import HandS.ForMost
import HandS.More
import HandS.Star
import HandS.Defaults
import HandS.IsInst
import HandS.TupMul
import HandS.TupAny
import KE.KDictPairs
import HandS.Dict
import KE.KStateDown
import HandS.Zip
import HandS.Walk
import HandS.HeadHook4
import HandS.Head0
import HandS.Head1
import HandS.Head2
import HandS.HeadEnd
import PySem.Challenge.RW_stealbeats_k27_whole_asked_alike
import HandS.TryOnly
import HandS.Small
import HandS.Deep
import HandS.Style
set_option Elab.async false
set_option linter.all false
set_option maxRecDepth 100000
namespace L2
open PySem PySem.Spec PyProof.Rows
section
variable {X : Cx}
abbrev Bd := Option (List (Nat × V))
def RelB (X : Cx) : Bd → Option (List (Str × Value)) → Prop
  | none, none => True
  | some bs, some us => Paired (fun (p : Nat × V) (q : Str × Value) => X.N[p.1]? = some q.1 ∧ Loc X.env.scope q.1 ∧ (X.fn q.1 = true ∨ X.env.scope.names.lookup q.1 = some .local) ∧ RelV p.2 q.2) bs us
  | _, _ => False
abbrev TPat := V → St → Hp → (Bd → Hp → Prop) → Prop
abbrev TPats := List V → St → Hp → (Bd → Hp → Prop) → Prop
structure PPat (X : Cx) (p : Pattern) (t : TPat) : Prop where
  run : ∀ (pins : List (Addr × Obj)) (s : Shared) (σ : St) (H : Hp) (v : V) (u : Value) (Q : Bd → Hp → Prop), Inv X pins σ H s → RelV v u → t v σ H Q →
    wpAny (model X.prog X.w) X.A (matchPattern p X.env u) (fun r s' => ∃ r' H', Inv X pins σ H' s' ∧ RelB X r' r ∧ Q r' H') X.xe s
structure PFst (X : Cx) (ps : List Pattern) (t : TPat) : Prop where
  run : ∀ (pins : List (Addr × Obj)) (s : Shared) (σ : St) (H : Hp) (v : V) (u : Value) (Q : Bd → Hp → Prop), Inv X pins σ H s → RelV v u → t v σ H Q →
    wpAny (model X.prog X.w) X.A (matchFirst ps X.env u) (fun r s' => ∃ r' H', Inv X pins σ H' s' ∧ RelB X r' r ∧ Q r' H') X.xe s
structure PEach (X : Cx) (ps : List Pattern) (t : TPats) : Prop where
  run : ∀ (pins : List (Addr × Obj)) (s : Shared) (σ : St) (H : Hp) (vs : List V) (us : List Value) (Q : Bd → Hp → Prop), Inv X pins σ H s → Vals vs us → t vs σ H Q →
    wpAny (model X.prog X.w) X.A (matchEach ps X.env us) (fun r s' => ∃ r' H', Inv X pins σ H' s' ∧ RelB X r' r ∧ Q r' H') X.xe s

def tpStr (x : Str) : TPat := fun v _ H Q => scal v (.str x) = true ∧ Q (if v = .str x then some [] else none) H
theorem pp_str {x : Str} {j pos pos'} : PPat X (.MatchValue (.Constant (.str x) j pos) pos') (tpStr x) := by
  refine ⟨fun pins s σ H v u Q I r h => ?_⟩
  obtain ⟨h1, h2⟩ := h
  refine wpAny_matchPattern_Value (Calls.Constant_str ?_)
  refine thn (op_eq pins _ σ H v (.str x) u _ (fun c H' => c = .bl (decide (v = .str x)) ∧ H' = H) (I.tok _) r ⟨_, rfl⟩ ⟨h1, rfl, rfl⟩) fun c s2 ⟨y, H1, I1, r1, q1, q2⟩ => ?_
  subst q1 q2
  cases r1
  refine wpAny_truthy_bool ?_
  by_cases e : v = .str x
  · rw [if_pos e] at h2
    rw [if_pos (decide_eq_true e)]
    exact ⟨some [], _, I1, .nil, h2⟩
  · rw [if_neg e] at h2
    rw [if_neg (by simp [e])]
    exact ⟨none, _, I1, trivial, h2⟩
def tpName (i : Nat) : TPat := fun v _ H Q => Q (some [(i, v)]) H
theorem pp_name {i : Nat} {x : Str} {pos} (hi : X.N[i]? = some x) (hx : Loc X.env.scope x) (hf : X.fn x = true ∨ X.env.scope.names.lookup x = some .local := by first | exact .inl rfl | exact .inr rfl | assumption) :
    PPat X (.MatchAs none (some x) pos) (tpName i) := by
  refine ⟨fun pins s σ H v u Q I r h => ?_⟩
  exact wpAny_matchPattern_Capture ⟨some [(i, v)], H, I, (show RelB X (some [(i, v)]) (some [(x, u)]) from Paired.cons ⟨hi, hx, hf, r⟩ Paired.nil), h⟩
def tpNo : TPat := fun _ _ H Q => Q none H
def tpElse (t u : TPat) : TPat := fun v σ H Q => t v σ H fun r H1 => match r with
  | some bs => Q (some bs) H1
  | none => u v σ H1 Q
theorem pf_nil : PFst X [] tpNo := ⟨fun pins s σ H v u Q I r h => wpAny_matchFirst_nil ⟨none, H, I, trivial, h⟩⟩
theorem pf_cons {p : Pattern} {ps : List Pattern} {t u : TPat} (h1 : PPat X p t) (h2 : PFst X ps u) : PFst X (p :: ps) (tpElse t u) := by
  refine ⟨fun pins s σ H v u Q I r h => ?_⟩
  refine wpAny_matchFirst_cons (thn (h1.run pins s σ H v u _ I r h) fun b s1 ⟨b', H1, I1, rb, q⟩ => ?_)
  cases b with
  | none =>
    cases b' with
    | none => exact h2.run pins s1 σ H1 v u Q I1 r q
    | some _ => exact rb.elim
  | some us =>
    cases b' with
    | none => exact rb.elim
    | some bs => exact ⟨some bs, H1, I1, rb, q⟩
def tpOr (t : TPat) : TPat := fun v σ H Q => t v σ H fun r H1 => match r with
  | some _ => Q (some []) H1
  | none => Q none H1
theorem pp_or {ps : List Pattern} {t : TPat} {pos} (h : PFst X ps t) (hn : namesOfAll (ps.take 1) = [] := by rfl) : PPat X (.MatchOr ps pos) (tpOr t) := by
  refine ⟨fun pins s σ H v u Q I r hw => ?_⟩
  refine wpAny_matchPattern_Or (thn (h.run pins s σ H v u _ I r hw) fun b s1 ⟨b', H1, I1, rb, q⟩ => ?_)
  cases b with
  | none =>
    cases b' with
    | none => exact ⟨none, H1, I1, trivial, q⟩
    | some _ => exact rb.elim
  | some us =>
    cases b' with
    | none => exact rb.elim
    | some bs =>
      rw [hn]
      exact ⟨some [], H1, I1, .nil, q⟩
def tqNil : TPats := fun _ _ H Q => Q (some []) H
def tqCons (t : TPat) (u : TPats) : TPats := fun vs σ H Q => ∃ v rest, vs = v :: rest ∧ t v σ H fun r H1 => match r with
  | none => Q none H1
  | some bs => u rest σ H1 fun r' H2 => match r' with
    | none => Q none H2
    | some more => Q (some (bs ++ more)) H2
theorem pq_nil : PEach X [] tqNil := ⟨fun pins s σ H vs us Q I r h => wpAny_matchEach_nil ⟨some [], H, I, .nil, h⟩⟩
theorem Paired.append' {α β : Type} {R : α → β → Prop} : ∀ {a b : List α} {c d : List β}, Paired R a c → Paired R b d → Paired R (a ++ b) (c ++ d)
  | _, _, _, _, .nil, h => h
  | _, _, _, _, .cons r t, h => .cons r (Paired.append' t h)
theorem pq_cons {p : Pattern} {ps : List Pattern} {t : TPat} {u : TPats} (h1 : PPat X p t) (h2 : PEach X ps u) (hp : p.isStar = false := by rfl) : PEach X (p :: ps) (tqCons t u) := by
  refine ⟨fun pins s σ H vs us Q I r h => ?_⟩
  obtain ⟨v, rest, e, h⟩ := h
  subst e
  cases r with
  | cons r rr =>
    refine wpAny_matchEach_cons (thn (h1.run pins s σ H v _ _ I r h) fun b s1 ⟨b', H1, I1, rb, q⟩ => ?_) hp
    cases b with
    | none =>
      cases b' with
      | none => exact ⟨none, H1, I1, trivial, q⟩
      | some _ => exact rb.elim
    | some us =>
      cases b' with
      | none => exact rb.elim
      | some bs =>
        refine thn (h2.run pins s1 σ H1 rest _ _ I1 rr q) fun b2 s2 ⟨b2', H2, I2, rb2, q2⟩ => ?_
        cases b2 with
        | none =>
          cases b2' with
          | none => exact ⟨none, H2, I2, trivial, q2⟩
          | some _ => exact rb2.elim
        | some us2 =>
          cases b2' with
          | none => exact rb2.elim
          | some bs2 => exact ⟨some (bs ++ bs2), H2, I2, Paired.append' rb rb2, q2⟩
def tpSeq (K : PySem.W.Frag) (n : Nat) (t : TPats) : TPat := fun v σ H Q => ∃ a xs, v = .ref a ∧ SqT K H a xs ∧ if xs.length = n then t xs σ H Q else Q none H
theorem pp_seq {ps : List Pattern} {t : TPats} {pos} {n : Nat} (hc : X.calm = true) (h : PEach X ps t) (hn : ps.length = n := by rfl) (hstar : ps.findIdx? (·.isStar) = none := by rfl)
    (hwild : (ps.all fun p => p.isWildcard || (p.isStar && p.names.isEmpty)) = false := by rfl) : PPat X (.MatchSequence ps pos) (tpSeq X.K n t) := by
  refine ⟨fun pins s σ H v u Q I r hw => ?_⟩
  obtain ⟨a, xs, e, hq, hw⟩ := hw
  subst e hn
  cases r
  obtain ⟨its, rv, ht, hz⟩ := I.tuple hq
  have hl := rv.length
  have hfit : (its.toArray.size : Int) < 2 ^ 63 := by
    have : (sizeLine : Int) < 2 ^ 63 := by decide
    simp
    omega
  by_cases en : xs.length = ps.length
  · rw [if_pos en] at hw
    refine matchSeq_tuple_hit ht hfit (by simp; omega) ?_ hstar hwild
    have e2 : ps.length = its.toArray.size := by simp; omega
    rw [e2]
    refine unpackItems_tuple (s := { s with toks := s.toks + 1 + 1 }) (I.ok.hd hc) ht fun h' hx => ?_
    have I1 : Inv X pins σ H { s with toks := s.toks + 1 + 1, heap := h' } := (I.tok (s.toks + 1 + 1)).kept (t' := s.toks + 1 + 1) fun b o e => hx b o (Nat.ne_of_lt (Heap.lt_size e)) e
    exact h.run pins _ σ H xs _ Q I1 (by simpa using rv) hw
  · rw [if_neg en] at hw
    exact matchSeq_tuple_miss ht hfit (by simp; omega) ⟨none, H, I.tok _, trivial, hw⟩ hstar hwild
def bindAll : List (Nat × V) → St → St
  | [], σ => σ
  | (i, v) :: r, σ => bindAll r (σ.set i (some v))
theorem bind_ok {M : Model} {A : Around} {E : Value → Shared → Prop} {pins : List (Addr × Obj)} {H : Hp} (hN : X.N.Nodup) {bs : List (Nat × V)} {us : List (Str × Value)} {σ : St} {s : Shared} {Q : Unit → Shared → Prop}
    (rb : RelB X (some bs) (some us)) (I : Inv X pins σ H s) (h : ∀ s', Inv X pins (bindAll bs σ) H s' → Q () s') : wpAny M A (assignInOrder (us.map fun (n, _) => bindName X.env n) (us.map (·.2))) Q E s := by
  have rb' : Paired (fun (p : Nat × V) (q : Str × Value) => X.N[p.1]? = some q.1 ∧ Loc X.env.scope q.1 ∧ (X.fn q.1 = true ∨ X.env.scope.names.lookup q.1 = some .local) ∧ RelV p.2 q.2) bs us := rb
  clear rb
  induction rb' generalizing σ s with
  | nil => exact wpAny_assignInOrder_none (h s I)
  | cons r _ ih =>
    obtain ⟨h1, h2, h3, h4⟩ := r
    exact wpAny_assignInOrder_more (wpAny_bindName (store_ok I hN h1 h2 h4 (fun s' I' => ih I' h) h3))
abbrev TMc := V → TS
structure PMc (X : Cx) (cs : List MatchCase) (t : TMc) : Prop where
  run : ∀ (first : Bool) (pins : List (Addr × Obj)) (s : Shared) (σ : St) (H : Hp) (v : V) (u : Value) (D : Ends), Inv X pins σ H s → RelV v u → t v D σ H → wpAny (model X.prog X.w) X.A (matchCases cs X.env u first) (SP X pins D) X.xe s
def tmNil : TMc := fun _ D σ H => D.nx σ H
def tmCons (p : TPat) (b : TS) (u : TMc) : TMc := fun v D σ H => p v σ H fun r H1 => match r with
  | none => u v D σ H1
  | some bs => b D (bindAll bs σ) H1
theorem pm_nil : PMc X [] tmNil := ⟨fun _ pins s σ H v u D I r h => wpAny_matchCases_nil ⟨σ, H, I, h⟩⟩
theorem pm_cons {p : Pattern} {body : List Stmt} {cs : List MatchCase} {tp : TPat} {tb : TS} {u : TMc} (hN : X.N.Nodup) (h1 : PPat X p tp) (h2 : PSs X body tb) (h3 : PMc X cs u) : PMc X (⟨p, none, body⟩ :: cs) (tmCons tp tb u) := by
  refine ⟨fun first pins s σ H v uu D I r h => ?_⟩
  refine wpAny_matchCases_cons (thn (h1.run pins s σ H v uu _ I r h) fun b s1 ⟨b', H1, I1, rb, q⟩ => ?_)
  cases b with
  | none =>
    cases b' with
    | none => exact h3.run false pins s1 σ H1 v uu D I1 r q
    | some _ => exact rb.elim
  | some us =>
    cases b' with
    | none => exact rb.elim
    | some bs => exact bind_ok hN rb I1 fun s2 I2 => h2.run pins s2 _ H1 D I2 q
def tMatch (te : TE) (tm : TMc) : TS := fun D σ H => te σ H fun v H1 => tm v D σ H1
theorem ps_match {e : Expr} {cs : List MatchCase} {te : TE} {tm : TMc} {pos} (he : PE X e te) (hm : PMc X cs tm) : PS X (.Match e cs pos) (tMatch te tm) := by
  refine ⟨fun pins s σ H D I h => ?_⟩
  exact wpAny_Match (thn (he.run pins s σ H _ I h) fun v s1 ⟨x, H1, I1, r1, q1⟩ => hm.run true pins s1 σ H1 x v D I1 r1 q1)
end
end L2

set_option Elab.async false
set_option linter.all false
set_option maxRecDepth 100000
namespace PySem
open Sem (wp)
open AutoSeq1 (wpAny_loadPart')
set_option maxHeartbeats 1000000 in
theorem meets_enumerate_new1 {v : Value} {o : Obj} {H : Heap → Prop} (B : Begins v o H) :
    Meets (Builtin.«enumerate.__new__» ⟨[.type "enumerate", v], []⟩) (fun _ R s => H s.heap ∧
      R (.ok (.ret (.ref (s.heap.push o).objs.size))) { s with heap := (s.heap.push o).push { cls := .type "enumerate", data := .fields #[.none, .bool false, .ref s.heap.objs.size, rawInt 0, .none, .none] } }) :=
  .of_wp fun prog w A R s h => by
    obtain ⟨hp, g, d, tk, os⟩ := s; obtain ⟨h1, h⟩ := h
    have hsub := sub_enumerate
    have q1 : ∀ {A' : Around} {E : Value → Shared → Prop} {Q : Value → Shared → Prop}, Q (.ref hp.objs.size) ⟨hp.push o, g, d, tk, os⟩ → wpAny (model prog w) A' (pyIter v) Q E ⟨hp, g, d, tk, os⟩ :=
      fun q => B.iter prog w _ _ ⟨hp, g, d, tk, os⟩ _ h1 q
    wp_walk using q1
    refine wpAny_stack_any fun st => wpAny_pure ?_
    split
    · rename_i c _ _ _ _ _
      cases (c == Value.type "enumerate")
      · wp_walk using q1
        exact ⟨_, rfl, h⟩
      · wp_walk using q1
        exact ⟨_, rfl, h⟩
    · wp_walk using q1
      exact ⟨_, rfl, h⟩
theorem enum_begins1 {prog : Program} {w : World} {A : Around} {E : Value → Shared → Prop} {s : Shared} {v : Value} {o : Obj} {H : Heap → Prop} {Q : Value → Shared → Prop} (B : Begins v o H) (h1 : H s.heap)
    (h : ∀ h', IsEnum h' (s.heap.objs.size + 1) s.heap.objs.size 0 .none → h'.get? s.heap.objs.size = some o → h'.objs.size = s.heap.objs.size + 2 →
      (∀ b o, s.heap.get? b = some o → h'.get? b = some o) → Q (.ref (s.heap.objs.size + 1)) { s with heap := h' }) :
    wpAny (model prog w) A (call (.type "enumerate") [v]) Q E s := by
  refine callType_new F.called_enumerate (by decide) (F.typeCall_enumerate_1 _) (F.newCall_enumerate_1 _) (fun obj => F.args_object_init_2 obj _) F.entry_enumerate_new
    (meets_enumerate_new1 B) ⟨h1, ?_⟩
  have hz : (s.heap.push o).objs.size = s.heap.objs.size + 1 := Heap.size_push ..
  show _ ∧ _
  rw [hz]
  have he : IsEnum ((s.heap.push o).push { cls := .type "enumerate", data := .fields #[.none, .bool false, .ref s.heap.objs.size, rawInt 0, .none, .none] }) (s.heap.objs.size + 1) s.heap.objs.size 0 .none := by
    have := Heap.get?_push_size (s.heap.push o) (o := { cls := .type "enumerate", data := .fields #[.none, .bool false, .ref s.heap.objs.size, rawInt 0, .none, .none] }) rfl
    rw [hz] at this; exact this
  refine ⟨⟨_, he, rfl⟩, h _ he (Heap.get?_push_of_some _ (Heap.get?_push_size _ B.free)) (by rw [Heap.size_push, hz]) fun b o x => Heap.get?_push_of_some _ (Heap.get?_push_of_some _ x)⟩
end PySem
namespace L2
open PySem PySem.Spec PyProof.Rows
def IteT (K : PySem.W.Frag) (a : Addr) : It :=
  ⟨fun i H => ∃ (xs : List V) (x : V), SqT K H a xs ∧ xs[i]? = some x, fun i H v H' => ∃ T x, v = .ref T ∧ H T = none ∧ H' = upd H T (.tup [.int (i : Nat), x]) ∧ ∀ xs, SqT K H a xs → xs[i]? = some x, fun i H => ∃ xs : List V, SqT K H a xs ∧ xs.length ≤ i⟩
theorem pyNext_enumT_end {prog : Program} {w : World} {A : Around} {E : Value → Shared → Prop} {s : Shared} {e it l : Addr} {i : Nat} {items : Array Value} {old : Value} {Q : Option Value → Shared → Prop} (hh : A.handled = none)
    (he : IsEnum s.heap e it i old) (hit : s.heap.IsTupleIter it l i) (hl : s.heap.IsTuple l items) (hx : items[i]? = none)
    (hQ : ∀ h', Heap.ExtBut it s.heap h' → Q none { s with heap := h' }) : wpAny (model prog w) A (pyNext (.ref e)) Q E s := by
  have hT : s.TypeIs (.ref e) "enumerate" := ⟨_, he, rfl⟩
  unfold pyNext
  refine wpAny_bind (wpAny_attempt (wpAny_callSpecial?_slot (name := Str.ofString "__next__") hT F.slot_enumerate_next
    (wpAny_call_entry F.slot_enumerate_next hT F.entry_enumerate_next ?_ (F.args_enumerate_next_1 _))))
  show wpAny _ _ (field (.ref e) 2 >>= _) _ _ _
  refine wpAny_bind (wpAny_field he rfl (x := .ref it) rfl ?_)
  refine wpAny_bind (wpAny_nextOf_tuple_end hh hit hl hx fun h' x he' hx' => ?_)
  obtain ⟨o, ho, hc⟩ := hx'
  refine wpAny_bind (wpAny_isInstance (T := "StopIteration") (b := true) ⟨o, ho, hc⟩ isSubtype_stop ?_)
  exact wpAny_pure (hQ _ he')
theorem turn_enumT {P : Program} {w : World} {K : PySem.W.Frag} {elts : List Expr} {kk : Nat} {tpos : Pos} (a e it : Addr) :
    Turn P w K (.Tuple elts kk tpos) (IteT K a) [e, it] e (fun i h => (∃ old, IsEnum h e it ((i : Nat) : Int) old) ∧ h.IsTupleIter it a i ∧ e ≠ it) where
  mem := by simp
  obj := fun i h st b hb => by
    obtain ⟨⟨old, he⟩, ⟨o, ho, hc, hd⟩, _⟩ := st
    have e' : b = e ∨ b = it := by simpa using hb
    rcases e' with z | z
    · rw [z]; exact ⟨_, he, fun v q => nomatch q⟩
    · rw [z]; exact ⟨o, ho, fun v q => by rw [hd] at q; cases q⟩
  keep := fun i h h' st k => let ⟨⟨old, he⟩, hi, hne⟩ := st; ⟨⟨old, k e (by simp) _ he⟩, hi.at fun o q => k it (by simp) o q, hne⟩
  item := by
    intro X hP hw hK hc i pins s σ H E I hf st hg
    subst hP hw hK
    obtain ⟨⟨old, he⟩, hit, hne⟩ := st
    obtain ⟨xs, x, hq, hx⟩ := hg
    obtain ⟨its, rv, p, hz⟩ := I.tuple hq
    obtain ⟨u, hu, ru⟩ := rv.get hx
    have hel : e < s.heap.objs.size := Heap.lt_size he
    have hil : it < s.heap.objs.size := by obtain ⟨_, q, _⟩ := hit; exact Heap.lt_size q
    have p' : s.heap.IsTuple a its.toArray := p
    have ea : e ≠ a := by
      rintro rfl
      obtain ⟨o, ho, hc', _⟩ := p'
      rw [he] at ho
      cases ho
      exact absurd (show Value.type "enumerate" = Value.type "tuple" from hc') (by decide)
    have ia : it ≠ a := by
      rintro rfl
      obtain ⟨o, ho, hc', _⟩ := p'
      obtain ⟨o2, ho2, hc2, _⟩ := hit
      rw [ho2] at ho
      cases ho
      rw [hc2] at hc'
      exact absurd hc' (by decide)
    have hlt : i < its.toArray.size := by
      have := (List.getElem?_eq_some_iff.mp hu).1
      simpa using this
    refine wpAny_pyNext_enum_itemD (Draws.tuple (show X.A.in1.handled = none from I.ok.hd hc) it a (Ne.symm ia) its.toArray) he ⟨hit, p'⟩ hlt hne (by simp [hne, ea]) fun x' h' tk hPx ho hst' hT hsz hk => ?_
    have hxu : x' = u := by
      have e1 : its.toArray[i]? = some x' := hPx
      have e2 : its.toArray[i]? = some u := by simpa using hu
      rw [e1] at e2
      exact Option.some.inj e2
    subst hxu
    refine ⟨_, rfl, wpAny_letOwnedTupleGo_enum (s := { s with heap := h', toks := tk + 1 }) ho fun h'' he' sb => ?_⟩
    have hT2 : h''.get? s.heap.objs.size = some { cls := .type "tuple", data := .seq #[.int i tk, x'] } := (sb.2 _ (Nat.ne_of_gt hel)).trans hT
    have new : ObjOk X.prog X.w (upd H s.heap.objs.size (.tup [.int (i : Nat), x])) h'' s.heap.objs.size (.tup [.int (i : Nat), x]) :=
      ⟨by show 2 ≤ sizeLine; decide, [.int i tk, x'], .cons ⟨_, rfl⟩ (.cons ru .nil), ⟨_, hT2, rfl, _, rfl⟩⟩
    have I1 : Inv X pins σ (upd H s.heap.objs.size (.tup [.int (i : Nat), x])) { s with heap := h'', toks := tk + 1 } :=
      I.turnedNew (ch := [e, it]) (fun b ob hb q => (sb.2 b (fun z => hb (by simp [z]))).trans (hk b ob (fun z => hb (by simp [z])) (fun z => hb (by simp [z])) q)) hf (Nat.le_refl _) new
    refine ⟨.ref s.heap.objs.size, _, I1, rfl, ⟨_, x, rfl, I.hok.fresh (Nat.le_refl _), rfl, fun ys hy => by rw [I.tuple_inj hy hq]; exact hx⟩, ⟨⟨x', ?_⟩, hst'.1.at fun o q => (sb.2 it (Ne.symm hne)).trans q, hne⟩, fun b hb => ?_⟩
    · have e1 : ((i + 1 : Nat) : Int) = (i : Int) + 1 := by omega
      rw [e1]; exact he'
    · have hb' : b < s.heap.objs.size := by
        have e' : b = e ∨ b = it := by simpa using hb
        rcases e' with z | z
        · rw [z]; exact hel
        · rw [z]; exact hil
      rw [upd_ne (Nat.ne_of_lt hb')]
      exact (hf b hb).1
  done := by
    intro X hP hw hK hc i pins s σ H E I hf st hg
    subst hP hw hK
    obtain ⟨⟨old, he⟩, hit, hne⟩ := st
    obtain ⟨xs, hq, hx⟩ := hg
    obtain ⟨its, rv, p, hz⟩ := I.tuple hq
    obtain ⟨f0, f1, f2, f3, f4, f5⟩ := hf it (by simp)
    have hl := rv.length
    exact pyNext_enumT_end (I.ok.hd hc) he hit p (by simp; omega) fun h' eb => ⟨rfl, I.turned (t' := s.toks) (fun b o hb q => eb b o hb q) f0 f1 f3 f4 f5⟩
  self := fun A i s Q E st h => let ⟨⟨_, he⟩, _⟩ := st; wpAny_pyIter_enum he h
def iEnumT (K : PySem.W.Frag) (ta : TA) : TI := fun σ H R => ta σ H fun vs H1 => ∃ a xs, vs = [.ref a] ∧ SqT K H1 a xs ∧ R (IteT K a) H1
theorem pi_enumT {X : Cx} {e : Expr} {ta : TA} {p pos tpos : Pos} {elts : List Expr} {kk : Nat} (hg : Gl X "enumerate") (hm : X.mg "enumerate" = none) (ha : PA X [e] ta) (hs : starEach [e] X.env = [(false, eval e X.env)] := by rfl) :
    PI X (.Tuple elts kk tpos) (.Call (.Name "enumerate" p) [e] [] pos) (iEnumT X.K ta) := by
  refine ⟨fun pins s σ H R I h => ?_⟩
  refine Call_ (ld_blt I hg hm boot_enumerate (PyProof.Rows.callWith_type1 (thn (ha.run pos pins s σ H _ I h) fun us s1 ⟨vs, H1, I1, r1, q1⟩ => ?_) hs rfl))
  obtain ⟨a, xs, ex, hq, q⟩ := q1
  subst ex
  cases r1 with
  | cons r rr =>
    cases rr
    cases r
    obtain ⟨its, rv, p', hz⟩ := I1.tuple hq
    refine enum_begins1 (begins_tuple a its.toArray) p' fun h' he hit hsz hk => wpAny_pyIter_enum he ?_
    have I2 : Inv X pins σ H1 { s1 with heap := h' } := I1.kept (t' := s1.toks) hk
    refine ⟨s1.heap.objs.size + 1, [s1.heap.objs.size + 1, s1.heap.objs.size], _, _, H1, rfl, I2, turn_enumT a (s1.heap.objs.size + 1) s1.heap.objs.size, ⟨⟨.none, he⟩, ⟨_, hit, rfl, rfl⟩, Nat.succ_ne_self _⟩, fun b hb => ?_, q⟩
    have e' : b = s1.heap.objs.size + 1 ∨ b = s1.heap.objs.size := by simpa using hb
    have hle : s1.heap.objs.size ≤ b := by
      rcases e' with z | z
      · rw [z]; exact Nat.le_add_right _ _
      · rw [z]; exact Nat.le_refl _
    exact I1.fpOk hle (I1.hok.fresh hle)
end L2

set_option Elab.async false
set_option linter.all false
set_option maxRecDepth 100000
namespace L2
open PySem PySem.Spec PyProof.Rows StX
def tCallR (sp : Sp) (t : TA) : TE := fun σ H Q => t σ H fun vs H1 => sp vs H1 Q E0
section
variable {X : Cx} {k : Nat} {f C : Addr} {sp : Sp} {x m : Str} {e o : Expr} {es : List Expr} {te ta : TE} {t : TA} {p sp_ pos apos : Pos}
theorem pe_callR (F : FnR X.prog X.w X.K X.mg X.base CX0 k f sp) (hr : Room k X.A) (hg : Gl X x) (hm : X.mg x = some (.ref f)) (hk : PySem.W.keepIn X.K (.ref f) = true)
    (ha : PA X (e :: es) t) (hdb : (x == ("__debug__" : Str)) = false := by decide) (he : starEach (e :: es) X.env = (false, eval e X.env) :: starEach es X.env := by rfl) (hpl : (backTo pos (starEach es X.env)).any (·.1) = false := by rfl) :
    PE X (.Call (.Name x p) (e :: es) [] pos) (tCallR sp t) := by
  refine ⟨fun pins s σ H Q I h => ?_⟩
  refine wpAny_Call_Name_kw (ld_glob I hg hm ?_ hdb)
  refine PySem.W.callWith_K (h₀ := X.base) I.ok.mod.kin hk (thn (ha.run pos pins s σ H _ I h) fun us s1 ⟨vs, H1, I1, r, q⟩ => ⟨I1.kIn, ?_⟩) he hpl
  exact wpAny_call (run_fnR F hr pass0 I1 r q)
theorem pe_mthR {pl : Sem Bool} (he : PE X o ta) (c : Cls X.K C) (hm : Meth X.K C m f)
    (F : FnR X.prog X.w X.K X.mg X.base CX0 k f sp) (hr : Room k X.A) (ha : PA X (e :: es) t)
    (hst : starEach (e :: es) X.env = (false, eval e X.env) :: starEach es X.env := by rfl) (hpl : (backTo pos (starEach es X.env)).any (·.1) = false := by rfl)
    (ht : eval (.Call (.Attribute o m apos) (e :: es) [] pos) X.env = (do
      let ov ← eval o X.env
      standAt apos.atName
      let (f, first) ← holding [ov] (getMethod ov m pl)
      callWith pos f first (backTo pos (starEach (e :: es) X.env)) (backToKw pos (keywordEach [] X.env))) := by rfl) :
    PE X (.Call (.Attribute o m apos) (e :: es) [] pos) (tMethR C m sp E0 ta t) := pe_methR he c hm F hr pass0 ha hst hpl ht
theorem pe_mth0R {pl : Sem Bool} (he : PE X o ta) (c : Cls X.K C) (hm : Meth X.K C m f) (F : FnR X.prog X.w X.K X.mg X.base CX0 k f sp) (hr : Room k X.A)
    (ht : eval (.Call (.Attribute o m apos) [] [] pos) X.env = (do
      let ov ← eval o X.env
      standAt apos.atName
      let (f, first) ← holding [ov] (getMethod ov m pl)
      callWith pos f first (backTo pos (starEach [] X.env)) (backToKw pos (keywordEach [] X.env))) := by rfl) :
    PE X (.Call (.Attribute o m apos) [] [] pos) (tMethR C m sp E0 ta tNil) := by
  refine ⟨fun pins s σ H Q I h => ?_⟩
  refine PySem.W.methodCall_KW (pl := pl) (thn (he.run pins s σ H _ I h) fun u s1 ⟨x, H1, I1, rx, a, dx, fs, ex, ea, l, q⟩ => ?_) ht
  subst ex
  obtain rfl : u = Value.ref a := rx
  refine getmeth_ok I1 ea c hm l ?_
  exact PySem.W.callWith_K0 (first := [.ref a]) I1.kIn hm.kp (wpAny_call (run_fnR (us := [.ref a]) (vs := [.ref a]) F hr pass0 I1 (.cons rfl .nil) q))
theorem pe_mkR (M : Mk X.K C f) (F : FnR X.prog X.w X.K X.mg X.base CX0 k f sp) (hr : Room (k + 1) X.A) (hg : Gl X x) (hm : X.mg x = some (.ref C)) (ha : PA X (e :: es) t) (hdb : (x == ("__debug__" : Str)) = false := by decide)
    (he : starEach (e :: es) X.env = (false, eval e X.env) :: starEach es X.env := by rfl) (hpl : (backTo pos (starEach es X.env)).any (·.1) = false := by rfl) : PE X (.Call (.Name x p) (e :: es) [] pos) (tMakeR C sp E0 t) :=
  pe_makeR M F hr hg hm pass0 ha hdb he hpl
def tMakeS (K : PySem.W.Frag) (C : Addr) (sp : Sp) (te : TE) : TE := fun σ H Q => te σ H fun y H1 => ∃ a xs, y = V.ref a ∧ SqT K H1 a xs ∧ ∀ x dx, H1 x = Option.none → H1 dx = Option.none → dx ≠ x →
  sp (V.ref x :: xs) (upd (upd H1 dx (.own x)) x (.ins C dx [])) (fun v H2 => v = .non ∧ Q (.ref x) H2) E0
theorem pe_mkS (M : Mk X.K C f) (F : FnR X.prog X.w X.K X.mg X.base CX0 k f sp) (hr : Room (k + 1) X.A) (hg : Gl X x) (hm : X.mg x = some (.ref C)) (he : PE X e te) (hd : (x == ("__debug__" : Str)) = false := by decide)
    (hst : starEach [.Starred e sp_] X.env = [(true, eval e X.env)] := by rfl) : PE X (.Call (.Name x p) [.Starred e sp_] [] pos) (tMakeS X.K C sp te) := by
  refine ⟨fun pins s σ H Q I h => ?_⟩
  refine wpAny_Call_Name_kw (ld_glob I hg hm ?_ hd)
  refine PySem.W.callWith_S (h₀ := X.base) I.ok.mod.kin M.kp (thn (he.run pins s σ H _ I h) fun v s1 ⟨y, H1, I1, ry, a, xs, ey, hxs, q⟩ => ?_) hst
  subst ey
  obtain rfl : v = Value.ref a := ry
  exact star_any I1 (.inl hxs) fun us s2 I2 rv => ⟨I2.kIn, run_makeR M F hr pass0 I2 rv q⟩
end
section
variable {P : Program} {w : World} {K : PySem.W.Frag} {mg : Str → Option Value} {base : Heap} {x qual : Str} {params : Arguments} {body : List Stmt} {scope : Scope} {f : Addr} {fd : FuncData}
theorem FunD.r {N ps : List Str} {k : Nat} {sp : Sp} (F : FunD K x qual params body scope [] [] f fd) (S : FnScope N ps scope)
    (hb : ∀ (kV doc pm : Value) (an : Option Addr) (cdv ct : Value) (us : List Value), us.length = ps.length → bindArgs (PySem.W.fnOf x qual params body scope .none kV doc pm an cdv ct) ⟨us, []⟩ = pure (ps.zip us))
    (len : ∀ vs H Q E, sp vs H Q E → vs.length = ps.length)
    (hbody : ∀ (cdv : Value) (A : Around) (outer : List Env) (s : Shared) (H : Hp) (vs : List V) (Q : VK) (E : XK), Room k (A.deeper (envOfC qual scope s.heap.objs.size f cdv)) → sp vs H Q E →
      ∃ t, PSs (cxOf CX0 P w K mg base N qual scope f cdv A outer s H E).nox body t ∧ t { nx := fun _ H' => Q .non H', rt := Q } (start N vs) H) : FnR P w K mg base CX0 (k + 1) f sp := by
  refine ((F.ok (CX := CX0) S len (fun cdv A outer s H vs Q E hr hs => ?_)).raw (F.bindsN hb) .nil).imp (fun vs H Q E h => by rw [List.append_nil]; exact h)
  obtain ⟨t, h1, h2⟩ := hbody cdv A outer s H vs Q E hr hs
  exact ⟨t, h1.nox, h2⟩
end
end L2

set_option Elab.async false
set_option linter.all false
set_option maxRecDepth 100000
namespace L2
open PySem PySem.Spec PyProof.Rows
theorem PE.imp {X : Cx} {e : Expr} {t t' : TE} (h : PE X e t) (i : ∀ σ H Q, t' σ H Q → t σ H Q) : PE X e t' := ⟨fun pins s σ H Q I hw => h.run pins s σ H Q I (i σ H Q hw)⟩
inductive TyN (K : PySem.W.Frag) (H : Hp) : V → String → Prop where
  | int (i : Int) : TyN K H (.int i) "int"
  | str (x : Str) : TyN K H (.str x) "str"
  | bl (b : Bool) : TyN K H (.bl b) "bool"
  | non : TyN K H .non "NoneType"
  | tup {a : Addr} {xs : List V} (h : SqT K H a xs) : TyN K H (.ref a) "tuple"
  | lst {a : Addr} {xs : List V} (h : SqL K H a xs) : TyN K H (.ref a) "list"
def subTy (n T : String) : Bool := n == T || (n == "bool" && T == "int")
theorem TyN.mem {K : PySem.W.Frag} {H : Hp} {x : V} {n : String} (t : TyN K H x n) : n ∈ ["int", "str", "bool", "NoneType", "tuple", "list"] := by cases t <;> decide
theorem TyN.tyX {K : PySem.W.Frag} {H : Hp} {x : V} {n : String} (t : TyN K H x n) : TyX K H x (.type n) := by
  cases t with
  | int i => exact .base (.int i)
  | str i => exact .base (.str i)
  | bl i => exact .base (.bl i)
  | non => exact .base .non
  | tup h =>
    rcases h with (h | ⟨o, h⟩) | ⟨o, its, n, hk, hc, _⟩
    · exact .base (.tup h)
    · exact .fTuple h
    · exact .kTuple hk hc
  | lst h =>
    rcases h with (h | ⟨o, h⟩) | ⟨o, its, n, hk, hc, _⟩
    · exact .base (.lst h)
    · exact .base (.frz h)
    · exact .kList hk hc
def tIsi (K : PySem.W.Frag) (T : String) (te : TE) : TE := fun σ H Q => te σ H fun x H1 => V.ty T = V.ty T ∧ ∃ n, TyN K H1 x n ∧ Q (.bl (subTy n T)) H1
theorem pe_isi {X : Cx} {T : Str} {n : String} {e : Expr} {te : TE} {p p2 pos : Pos} (hg : Gl X "isinstance") (hm : X.mg "isinstance" = none) (hg2 : Gl X T) (hm2 : X.mg T = none) (he : PE X e te)
    (hv : bootBuiltins T = some (.type n) := by decide +kernel) (hk : ∀ m ∈ ["int", "str", "bool", "NoneType", "tuple", "list"], kitB m n = some (subTy m n) := by decide +kernel) (hn : T ≠ "__name__" := by decide) (hd : (T == ("__debug__" : Str)) = false := by decide)
    (hs : starEach [e, .Name T p2] X.env = (false, eval e X.env) :: starEach [.Name T p2] X.env := by rfl)
    (hs2 : starEach [.Name T p2] X.env = (false, eval (.Name T p2) X.env) :: starEach [] X.env := by rfl) (hpl : (backTo pos (starEach [.Name T p2] X.env)).any (·.1) = false := by rfl) :
    PE X (.Call (.Name "isinstance" p) [e, .Name T p2] [] pos) (tIsi X.K n te) := by
  refine ⟨fun pins s σ H Q I h => ?_⟩
  have ha := pa_cons he (pa_cons (pe_bltn (v := .ty n) (pos := p2) hg2 hm2 hv rfl hn hd) pa_nil hs2) hs
  refine wpAny_Call_Name_kw (ld_blt (u := .builtin "isinstance") I hg hm (by decide +kernel) ?_)
  refine PyProof.Rows.callWith_builtin1 (thn (ha.run pos pins s σ H (fun vs H1 => match vs with
    | [x, c] => c = .ty n ∧ ∃ m, TyN X.K H1 x m ∧ Q (.bl (subTy m n)) H1
    | _ => False) I ?_) fun us s1 ⟨vs, H1, I1, r1, q1⟩ => ?_) hs hpl
  · exact h
  · match vs, r1, q1 with
    | [x, c], r1, q1 =>
      obtain ⟨rfl, m, ty, q⟩ := q1
      exact call_isi pins s1 σ H1 _ us Q I1 r1 ⟨x, .ty n, .type m, .type n, subTy m n, rfl, .ty n, ty.tyX, kit_ty (hk m ty.mem), q⟩
end L2

set_option Elab.async false
set_option linter.all false
set_option maxRecDepth 100000
namespace L2
open PySem PySem.Spec PyProof.Rows
theorem tuple_mul1 (l : Addr) (items : Array Value) (n : Nat) (dd : Option Addr) (sl : Array (Option Value)) (u : Tok) :
    Meets (Builtin.«tuple.__mul__» ⟨[.ref l, .int 1 u], []⟩) (fun _ R s => s.heap.get? l = some { cls := .type "tuple", dict := dd, data := .seq items n, slots := sl } ∧ R (.ok (.ret (Value.ref l))) s) :=
  .of_wp fun prog w A R s h => by
    obtain ⟨hp, g, d, tk, os⟩ := s
    obtain ⟨hl, h⟩ := h
    have f1 := AutoSeq1.idx_int
    have c1 : (items.isEmpty || (1 : Int) == 1) = true := by simp
    wp_walk using wpAny_loadPart' hl
    exact ⟨_, rfl, h⟩
theorem tuple_mul0 (l : Addr) (items : Array Value) (n : Nat) (dd : Option Addr) (sl : Array (Option Value)) (u : Tok) (c1 : (items.isEmpty || (0 : Int) == 1) = false) :
    Meets (Builtin.«tuple.__mul__» ⟨[.ref l, .int 0 u], []⟩) (fun _ R s => s.heap.get? l = some { cls := .type "tuple", dict := dd, data := .seq items n, slots := sl } ∧
      R (.ok (.ret (Value.ref s.heap.objs.size))) { s with heap := s.heap.push { cls := Value.type "tuple", data := Data.seq #[] }, toks := s.toks }) :=
  .of_wp fun prog w A R s h => by
    obtain ⟨hp, g, d, tk, os⟩ := s
    obtain ⟨hl, h⟩ := h
    have f1 := AutoSeq1.idx_int
    wp_walk using wpAny_loadPart' hl
    repeat (first
      | (refine wpAny_ite_false (decide_eq_false (by rw [c1]; exact Bool.false_ne_true)) ?_; wp_walk using wpAny_loadPart' hl))
    exact ⟨_, rfl, h⟩
def rRepA (K : PySem.W.Frag) : R2 := fun x y H Q => ∃ l k xs, x = .ref l ∧ y = .int k ∧ SqT K H l xs ∧ xs ≠ [] ∧ 0 ≤ k ∧ k ≤ 1000 ∧ xs.length ≤ 1000 ∧ (k = 1 → Q (.ref l) H) ∧ (k ≠ 1 → ∀ p, H p = none → Q (.ref p) (upd H p (.tup (List.replicate k.toNat xs).flatten)))
theorem op_repA {X : Cx} : OpR X (binaryOp .Mult) (rRepA X.K) := by
  intro pins s σ H x y v u Q I rx ry h
  obtain ⟨l, k, xs, rfl, rfl, hT, hne, h1, h2, hz, q1, q2⟩ := h
  by_cases hk2 : 2 ≤ k
  · exact op_repT pins s σ H _ _ v u Q I rx ry ⟨l, k, xs, rfl, rfl, hT, hne, hk2, h2, hz, q2 (by omega)⟩
  · cases rx
    obtain ⟨t, rfl⟩ := ry
    obtain ⟨its, r, ⟨⟨cls, dd, data, sl⟩, ho, hc, n, hd⟩, hs⟩ := I.tuple hT
    simp only at hc hd
    subst hc hd
    have hle : its.length = xs.length := r.length.symm
    have hi : its.toArray.isEmpty = false := by
      cases its with
      | nil => exact absurd (List.eq_nil_of_length_eq_zero (by rw [← hle]; rfl)) hne
      | cons a b => rfl
    by_cases hk1 : k = 1
    · subst hk1
      refine wpAny_binaryOp_repeat_ref (T := "tuple") (U := "int") (by decide) ⟨_, ho, rfl⟩ (fun s' => typeIs_int s' 1 t) noFill_tuple_mul F.fills_int_mul F.slot_int_rmul repeat_tuple F.slot_int_index.lookup
        (call_meets F.slot_int_rmul (typeIs_int s 1 t) F.entry_int_rmul (F.args_int_rmul_2 _ _) (int_rmul_tuple 1 t l its.toArray n dd sl)
          ⟨ho, rfl, ⟨_, ho, rfl⟩, call_meets F.slot_tuple_mul ⟨_, ho, rfl⟩ F.entry_tuple_mul (F.args_tuple_mul_2 _ _) (tuple_mul1 l its.toArray n dd sl t) ⟨ho, ?_⟩⟩)
      exact ⟨.ref l, H, I, rfl, q1 rfl⟩
    · have hk0 : k = 0 := by omega
      subst hk0
      refine wpAny_binaryOp_repeat_ref (T := "tuple") (U := "int") (by decide) ⟨_, ho, rfl⟩ (fun s' => typeIs_int s' 0 t) noFill_tuple_mul F.fills_int_mul F.slot_int_rmul repeat_tuple F.slot_int_index.lookup
        (call_meets F.slot_int_rmul (typeIs_int s 0 t) F.entry_int_rmul (F.args_int_rmul_2 _ _) (int_rmul_tuple 0 t l its.toArray n dd sl)
          ⟨ho, rfl, ⟨_, ho, rfl⟩, call_meets F.slot_tuple_mul ⟨_, ho, rfl⟩ F.entry_tuple_mul (F.args_tuple_mul_2 _ _) (tuple_mul0 l its.toArray n dd sl t (by rw [hi]; rfl)) ⟨ho, ?_⟩⟩)
      refine ⟨.ref s.heap.objs.size, _, I.laid (t' := s.toks) (o := .tup []) (fun b ob q => Heap.get?_push_of_some _ q) (Nat.le_refl _) ?_, rfl, q2 (by decide) _ (I.hok.fresh (Nat.le_refl _))⟩
      exact ⟨Nat.zero_le _, [], .nil, IsTup.new _ _⟩
end L2

set_option Elab.async false
set_option linter.all false
set_option maxRecDepth 100000
namespace L2
open PySem PySem.Spec PyProof.Rows
section
variable {prog : Program} {w : World} {A : Around} {E : Value → Shared → Prop}
theorem call_upd_list {s : Shared} {d l : Addr} {ol : Obj} {items : Array Value} {n : Nat} {acc prs : List (Key × Value)} {Q : Value → Shared → Prop} (hh : A.handled = none) (hm : s.heap.DictOf (mixKind prog w) d acc) (hl : s.heap.get? l = some ol) (hc : ol.cls = .type "list") (hd : ol.dict = none)
    (hdat : ol.data = .seq items n) (hsz : items.size = prs.length) (hln : acc.length + prs.length ≤ sizeLine) (hdl : d ≠ l)
    (ht : ∀ (j : Nat) (q : Key × Value), prs[j]? = some q → ∃ (b : Addr) (u : Value), items[j]? = some (.ref b) ∧ b ≠ d ∧ IsTup s.heap b #[u, q.2] ∧ keyIs q.1 u = true)
    (h : ∀ h' tk, h'.DictOf (mixKind prog w) d (merged acc prs) → (∀ b o, b ≠ d → s.heap.get? b = some o → h'.get? b = some o) → Q .none { s with heap := h', toks := tk }) :
    wpAny (model prog w) A (call (.builtin "dict.update") [.ref d, .ref l]) Q E s := by
  refine call_meetsIn F.slot_dict_update hm.typeIs F.entry_dict_update (F.args_dict_update_2 _ _)
    (S := fun A' R s' => A' = A ∧ s' = s ∧ ∀ h' tk, h'.DictOf (mixKind prog w) d (merged acc prs) → (∀ b o, b ≠ d → s.heap.get? b = some o → h'.get? b = some o) → R (.ok (.ret .none)) { s with heap := h', toks := tk })
    (fun A' R s' hS => ?_) ⟨rfl, rfl, h⟩
  obtain ⟨rfl, rfl, hq⟩ := hS
  refine meets_dict_update_arg hm.typeIs ?_
  unfold Builtin.Dict.updateFrom
  refine wpAny_bind (wpAny_typeOf (T := "list") ⟨ol, hl, hc⟩ ?_)
  rw [if_pos (by first | decide | rfl | simp)]
  refine wpAny_bind (miss_list hl hc hdat hd hh fun h1 tk1 hk1 => ?_)
  rw [if_pos (show (none : Option Value).isNone = true from rfl)]
  refine wpAny_bind (wpAny_rule ?_)
  have hl1 : h1.IsList l items := ⟨ol, hk1 _ _ hl, hc, n, hdat⟩
  have hlt : l < h1.objs.size := Heap.lt_size (hk1 _ _ hl)
  have hdt : d < h1.objs.size := by
    obtain ⟨q, _, _, hq', _⟩ := hm
    exact Heap.lt_size (hk1 _ _ hq')
  refine wpAny_bind (wpAny_pyIter_list hl1 ?_)
  have k2 : ∀ b o, h1.get? b = some o → (h1.push { cls := .type "list_iterator", data := .fields #[.ref l, .int 0 0] }).get? b = some o := fun b o e => Heap.get?_push_of_some _ e
  have key := upd_loop (prog := prog) (w := w) (A := A') (R := R) (S := d) (I := h1.objs.size) (l := l) (items := items) (res := Value.none) hh
    (Nat.ne_of_lt hlt) (Nat.ne_of_lt hdt) hdl prs 0 acc 0 0
    { s' with heap := h1.push { cls := .type "list_iterator", data := .fields #[.ref l, .int 0 0] }, toks := tk1 } (by rw [hsz, Nat.zero_add]) hln
    (fun j q e => by
      obtain ⟨b, u, e1, e0, e2, e3⟩ := ht j q e
      have e2' : IsTup h1 b #[u, q.2] := e2.keeps fun c o z => hk1 _ _ z
      exact ⟨b, u, by rw [Nat.zero_add]; exact e1, e0, Nat.ne_of_lt e2'.lt, e2'.keeps fun c o z => k2 _ _ z, e3⟩)
    ⟨_, Heap.get?_push_size _ rfl, rfl, rfl⟩ (hl1.at fun o e => k2 _ _ e) ((hm.at fun o e => hk1 _ _ e).at fun o e => k2 _ _ e)
    (fun h' tk hd' k => hq h' tk hd' fun b o hb e => k b o hb (Nat.ne_of_lt (Heap.lt_size (hk1 _ _ e))) (k2 _ _ (hk1 _ _ e)))
  first
    | exact wpAny_pure ⟨plainId_quiet ud_plain _, key⟩
    | exact wpAny_bind (wpAny_pure (wpAny_pure ⟨plainId_quiet ud_plain _, key⟩))
end
section
variable {X : Cx}
def rUpdP (K : PySem.W.Frag) : V → List V → Hp → VK → Prop := fun x vs H Q => ∃ (a l : Addr) (ps : List Addr) (kvs kvs' : List (Key × V)), x = .ref a ∧ vs = [.ref l] ∧ H a = some (.dK kvs) ∧ H l = some (.lst (ps.map V.ref)) ∧ Paired (fun p kv => H p = some (.tup [kV kv.1, kv.2])) ps kvs' ∧ kvs.length + kvs'.length ≤ sizeLine ∧
  Q .non (upd H a (.dK (mergeK kvs kvs')))
theorem paired_sq {H : Hp} : ∀ {ps : List Addr} {kvs : List (Key × V)}, Paired (fun p kv => H p = some (.tup [kV kv.1, kv.2])) ps kvs → Paired (fun p kv => SqT X.K H p [kV kv.1, kv.2]) ps kvs
  | _, _, .nil => .nil
  | _, _, .cons h t => .cons (SqT.of h) (paired_sq t)
theorem paired_ne {H : Hp} {a : Addr} {kvs0 : List (Key × V)} (ha : H a = some (.dK kvs0)) : ∀ {ps : List Addr} {kvs : List (Key × V)}, Paired (fun p kv => H p = some (.tup [kV kv.1, kv.2])) ps kvs → ∀ (j : Nat) (b : Addr), ps[j]? = some b → b ≠ a
  | _, _, .nil, j, b, e => by simp at e
  | _, _, .cons h t, 0, b, e => by
    cases e
    exact ne_of h ha (by intro z; cases z)
  | _, _, .cons h t, j + 1, b, e => paired_ne ha t j b (by simpa using e)
theorem mt_updP (hcalm : X.calm = true) : MtM X "dict.update" (rUpdP X.K) := by
  intro pins s σ H x vs v us Q I rx rv h
  obtain ⟨a, l, ps, kvs, kvs', rfl, rfl, hH, hq, hp, hz, q⟩ := h
  cases rx
  obtain ⟨u, rfl, ru⟩ := rv.one
  cases ru
  obtain ⟨its, rv', pl, hzl⟩ := I.list (SqL.of hq)
  have ei := refs_at rv'
  subst ei
  obtain ⟨prs, rel, hl, hpr⟩ := pairs_of I (paired_sq (X := X) hp)
  obtain ⟨o, n, ho, hc, hd, hdat⟩ := pl
  obtain ⟨z, hsm, vs0, r0, dd⟩ := dk_of I.hok hH
  have hal : a ≠ l := ne_of hH hq (by intro z; cases z)
  have el : kvs'.length = prs.length := rel.length
  refine call_upd_list (prs := prs) (I.ok.hd hcalm) dd ho hc hd hdat (by simp [hl]) (by rw [← r0.length, ← el]; exact hz) hal (fun j q' e => ?_) fun h' tk hd' k => ?_
  · obtain ⟨b, u, e1, e2, e3⟩ := hpr j q' e
    exact ⟨b, u, by simp [e1], paired_ne hH hp j b e1, e2, e3⟩
  · have hlen : (mergeK kvs kvs').length ≤ sizeLine := Nat.le_trans (length_mergeK kvs' kvs) (by omega)
    have he : ∃ q, h'.get? a = some q := let ⟨q, _, _, hq, _⟩ := hd'; ⟨q, hq⟩
    exact ⟨.non, _, I.write (t' := tk) (x := a) (e := a) (by rw [hH]; exact True.intro) (.inl rfl) k he (dk_new hlen hsm (KV.merge rel r0) hd'), rfl, q⟩
end
end L2

set_option Elab.async false
set_option linter.all false
set_option maxRecDepth 100000
set_option maxHeartbeats 2000000
namespace SB
open PySem PySem.Spec PyProof.Rows L2
def top (i : Nat) : Stmt := PySem.Challenge.pw_stealbeats_k27_whole_asked_alike.main.body.getD i (.Pass ⟨0, 0, 0, 0⟩)
abbrev s__wall : Stmt := top 0
abbrev s_is_number : Stmt := top 19
abbrev s_is_part : Stmt := top 20
abbrev s_is_one_of : Stmt := top 21
abbrev s_is_row : Stmt := top 22
abbrev s_is_work : Stmt := top 23
abbrev s_is_ask : Stmt := top 24
abbrev s_check_program : Stmt := top 25
abbrev s_check_works : Stmt := top 26
abbrev s_check_memory : Stmt := top 27
abbrev s_check_asks : Stmt := top 28
abbrev s_check_hall : Stmt := top 29
abbrev s_check_beats : Stmt := top 30
abbrev s_check_straight : Stmt := top 31
abbrev s_Going_init : Stmt := inClass (top 33) 0
abbrev s_Work_init : Stmt := inClass (top 34) 0
abbrev s_Work_held_off : Stmt := inClass (top 34) 1
abbrev s_Work_may_take : Stmt := inClass (top 34) 2
abbrev s_Work_move : Stmt := inClass (top 34) 3
abbrev s_Work_fetch : Stmt := inClass (top 34) 4
abbrev s_Work_lay : Stmt := inClass (top 34) 5
abbrev s_Device_init : Stmt := inClass (top 35) 0
abbrev s_Device_is_on : Stmt := inClass (top 35) 1
abbrev s_Device_wake : Stmt := inClass (top 35) 2
abbrev s_Device_start : Stmt := inClass (top 35) 3
abbrev s_Device_move : Stmt := inClass (top 35) 4
abbrev s_Device_taker : Stmt := inClass (top 35) 5
abbrev s_Device_numbers_on : Stmt := inClass (top 35) 6
abbrev s_Device_shown_on : Stmt := inClass (top 35) 7
abbrev s_beats_of : Stmt := top 40
abbrev s_word_of : Stmt := top 41
abbrev s_Machine_init : Stmt := inClass (top 42) 0
abbrev s_Machine_ended : Stmt := inClass (top 42) 1
abbrev s_Machine_wanted : Stmt := inClass (top 42) 2
abbrev s_Machine_step : Stmt := inClass (top 42) 3
abbrev s_Machine_use_word : Stmt := inClass (top 42) 4
abbrev s_Machine_finish : Stmt := inClass (top 42) 5
abbrev s_Machine_reckoned : Stmt := inClass (top 42) 6
abbrev s_Floor_init : Stmt := inClass (top 44) 0
abbrev s_Floor_pass_beat : Stmt := inClass (top 44) 1
abbrev s_Floor_seen : Stmt := inClass (top 44) 2
abbrev s_Hall_init : Stmt := inClass (top 46) 0
abbrev s_Hall_beat : Stmt := inClass (top 46) 1
abbrev s_Hall_shown : Stmt := inClass (top 46) 2
abbrev s_run : Stmt := top 48
abbrev s_Watch_init : Stmt := inClass (top 50) 0
abbrev s_Watch_run : Stmt := inClass (top 50) 1
abbrev s_Watch_run_till : Stmt := inClass (top 50) 2
abbrev s_Watch_step : Stmt := inClass (top 50) 3
abbrev s_Watch_note_get : Stmt := inClass (top 50) 4
abbrev s_check_ahead : Stmt := top 52
abbrev s_watched : Stmt := top 53
abbrev s_row_times : Stmt := top 54
abbrev s_times : Stmt := top 55
abbrev s_l_dice : Stmt := top 57
abbrev s_l_off : Stmt := top 58
abbrev s_l_words : Stmt := top 59
abbrev s_l_work : Stmt := top 60
abbrev s_l_row : Stmt := top 61
abbrev s_l_program : Stmt := top 62
abbrev s_l_asked : Stmt := top 63
abbrev s_law : Stmt := top 64
theorem sc__wall : FnScope ["k"] ["k"] (defScope s__wall) := ⟨rfl, rfl, rfl, by decide +kernel, rfl, by decide +kernel, by decide +kernel⟩
theorem sc_is_number : FnScope ["value", "low", "high"] ["value", "low", "high"] (defScope s_is_number) := ⟨rfl, rfl, rfl, by decide +kernel, rfl, by decide +kernel, by decide +kernel⟩
theorem sc_is_part : FnScope ["value", "kind", "low", "high"] ["value", "kind"] (defScope s_is_part) := ⟨rfl, rfl, rfl, by decide +kernel, rfl, by decide +kernel, by decide +kernel⟩
theorem sc_is_one_of : FnScope ["value", "many"] ["value", "many"] (defScope s_is_one_of) := ⟨rfl, rfl, rfl, by decide +kernel, rfl, by decide +kernel, by decide +kernel⟩
theorem sc_is_row : FnScope ["row", "row_count", "form", "value", "kind", "fits"] ["row", "row_count"] (defScope s_is_row) := ⟨rfl, rfl, rfl, by decide +kernel, rfl, by decide +kernel, by decide +kernel⟩
theorem sc_is_work : FnScope ["work", "work_count", "begin", "goal", "many", "block", "greed", "mark", "follow", "moves", "held"] ["work", "work_count"] (defScope s_is_work) := ⟨rfl, rfl, rfl, by decide +kernel, rfl, by decide +kernel, by decide +kernel⟩
theorem sc_is_ask : FnScope ["ask", "work_count", "earliest", "when", "work"] ["ask", "work_count", "earliest"] (defScope s_is_ask) := ⟨rfl, rfl, rfl, by decide +kernel, rfl, by decide +kernel, by decide +kernel⟩
theorem sc_check_program : FnScope ["program", "at", "row"] ["program"] (defScope s_check_program) := ⟨rfl, rfl, rfl, by decide +kernel, rfl, by decide +kernel, by decide +kernel⟩
theorem sc_check_works : FnScope ["works", "at", "work"] ["works"] (defScope s_check_works) := ⟨rfl, rfl, rfl, by decide +kernel, rfl, by decide +kernel, by decide +kernel⟩
theorem sc_check_memory : FnScope ["memory", "word"] ["memory"] (defScope s_check_memory) := ⟨rfl, rfl, rfl, by decide +kernel, rfl, by decide +kernel, by decide +kernel⟩
theorem sc_check_asks : FnScope ["asks", "works", "earliest", "at", "ask"] ["asks", "works"] (defScope s_check_asks) := ⟨rfl, rfl, rfl, by decide +kernel, rfl, by decide +kernel, by decide +kernel⟩
theorem sc_check_hall : FnScope ["program", "works", "memory", "asks"] ["program", "works", "memory", "asks"] (defScope s_check_hall) := ⟨rfl, rfl, rfl, by decide +kernel, rfl, by decide +kernel, by decide +kernel⟩
theorem sc_check_beats : FnScope ["beats"] ["beats"] (defScope s_check_beats) := ⟨rfl, rfl, rfl, by decide +kernel, rfl, by decide +kernel, by decide +kernel⟩
theorem sc_check_straight : FnScope ["program", "row"] ["program"] (defScope s_check_straight) := ⟨rfl, rfl, rfl, by decide +kernel, rfl, by decide +kernel, by decide +kernel⟩
theorem sc_Going_init : FnScope ["self", "number"] ["self", "number"] (defScope s_Going_init) := ⟨rfl, rfl, rfl, by decide +kernel, rfl, by decide +kernel, by decide +kernel⟩
theorem sc_Work_init : FnScope ["self", "begin", "goal", "many", "block", "greed", "mark", "follow"] ["self", "begin", "goal", "many", "block", "greed", "mark", "follow"] (defScope s_Work_init) := ⟨rfl, rfl, rfl, by decide +kernel, rfl, by decide +kernel, by decide +kernel⟩
theorem sc_Work_held_off : FnScope ["self", "marks"] ["self", "marks"] (defScope s_Work_held_off) := ⟨rfl, rfl, rfl, by decide +kernel, rfl, by decide +kernel, by decide +kernel⟩
theorem sc_Work_may_take : FnScope ["self", "wanted", "took"] ["self", "wanted", "took"] (defScope s_Work_may_take) := ⟨rfl, rfl, rfl, by decide +kernel, rfl, by decide +kernel, by decide +kernel⟩
theorem sc_Work_move : FnScope ["self", "when", "words"] ["self", "when", "words"] (defScope s_Work_move) := ⟨rfl, rfl, rfl, by decide +kernel, rfl, by decide +kernel, by decide +kernel⟩
theorem sc_Work_fetch : FnScope ["self", "words", "going", "address"] ["self", "words"] (defScope s_Work_fetch) := ⟨rfl, rfl, rfl, by decide +kernel, rfl, by decide +kernel, by decide +kernel⟩
theorem sc_Work_lay : FnScope ["self", "when", "words", "going", "address", "word"] ["self", "when", "words"] (defScope s_Work_lay) := ⟨rfl, rfl, rfl, by decide +kernel, rfl, by decide +kernel, by decide +kernel⟩
theorem sc_Device_init : FnScope ["self", "works", "work"] ["self", "works"] (defScope s_Device_init) := ⟨rfl, rfl, rfl, by decide +kernel, rfl, by decide +kernel, by decide +kernel⟩
theorem sc_Device_is_on : FnScope ["self", "number"] ["self", "number"] (defScope s_Device_is_on) := ⟨rfl, rfl, rfl, by decide +kernel, rfl, by decide +kernel, by decide +kernel⟩
theorem sc_Device_wake : FnScope ["self", "asked", "number"] ["self", "asked"] (defScope s_Device_wake) := ⟨rfl, rfl, rfl, by decide +kernel, rfl, by decide +kernel, by decide +kernel⟩
theorem sc_Device_start : FnScope ["self", "number", "work"] ["self", "number"] (defScope s_Device_start) := ⟨rfl, rfl, rfl, by decide +kernel, rfl, by decide +kernel, by decide +kernel⟩
theorem sc_Device_move : FnScope ["self", "when", "wanted", "marks", "words", "number", "work", "deed", "address", "word"] ["self", "when", "wanted", "marks", "words"] (defScope s_Device_move) := ⟨rfl, rfl, rfl, by decide +kernel, rfl, by decide +kernel, by decide +kernel⟩
theorem sc_Device_taker : FnScope ["self", "wanted", "marks", "number", "work"] ["self", "wanted", "marks"] (defScope s_Device_taker) := ⟨rfl, rfl, rfl, by decide +kernel, rfl, by decide +kernel, by decide +kernel⟩
theorem sc_Device_numbers_on : FnScope ["self", "number"] ["self"] (defScope s_Device_numbers_on) := ⟨rfl, rfl, rfl, by decide +kernel, rfl, by decide +kernel, by decide +kernel⟩
theorem sc_Device_shown_on : FnScope ["self", "on", "number", "going"] ["self"] (defScope s_Device_shown_on) := ⟨rfl, rfl, rfl, by decide +kernel, rfl, by decide +kernel, by decide +kernel⟩
theorem sc_beats_of : FnScope ["row"] ["row"] (defScope s_beats_of) := ⟨rfl, rfl, rfl, by decide +kernel, rfl, by decide +kernel, by decide +kernel⟩
theorem sc_word_of : FnScope ["row", "spent", "cells", "cell", "address", "holder"] ["row", "spent", "cells"] (defScope s_word_of) := ⟨rfl, rfl, rfl, by decide +kernel, rfl, by decide +kernel, by decide +kernel⟩
theorem sc_Machine_init : FnScope ["self", "program"] ["self", "program"] (defScope s_Machine_init) := ⟨rfl, rfl, rfl, by decide +kernel, rfl, by decide +kernel, by decide +kernel⟩
theorem sc_Machine_ended : FnScope ["self"] ["self"] (defScope s_Machine_ended) := ⟨rfl, rfl, rfl, by decide +kernel, rfl, by decide +kernel, by decide +kernel⟩
theorem sc_Machine_wanted : FnScope ["self"] ["self"] (defScope s_Machine_wanted) := ⟨rfl, rfl, rfl, by decide +kernel, rfl, by decide +kernel, by decide +kernel⟩
theorem sc_Machine_step : FnScope ["self", "words", "device", "wanted", "told", "row"] ["self", "words", "device"] (defScope s_Machine_step) := ⟨rfl, rfl, rfl, by decide +kernel, rfl, by decide +kernel, by decide +kernel⟩
theorem sc_Machine_use_word : FnScope ["self", "wanted", "words", "deed", "place", "cell", "address"] ["self", "wanted", "words"] (defScope s_Machine_use_word) := ⟨rfl, rfl, rfl, by decide +kernel, rfl, by decide +kernel, by decide +kernel⟩
theorem sc_Machine_finish : FnScope ["self", "row", "device", "target", "cell", "work", "mark", "other"] ["self", "row", "device"] (defScope s_Machine_finish) := ⟨rfl, rfl, rfl, by decide +kernel, rfl, by decide +kernel, by decide +kernel⟩
theorem sc_Machine_reckoned : FnScope ["self", "deed", "worth", "other", "device"] ["self", "deed", "worth", "other", "device"] (defScope s_Machine_reckoned) := ⟨rfl, rfl, rfl, by decide +kernel, rfl, by decide +kernel, by decide +kernel⟩
theorem sc_Floor_init : FnScope ["self", "program", "works", "memory", "asks"] ["self", "program", "works", "memory", "asks"] (defScope s_Floor_init) := ⟨rfl, rfl, rfl, by decide +kernel, rfl, by decide +kernel, by decide +kernel⟩
theorem sc_Floor_pass_beat : FnScope ["self", "wanted", "moved", "done", "when", "work"] ["self"] (defScope s_Floor_pass_beat) := ⟨rfl, rfl, rfl, by decide +kernel, rfl, by decide +kernel, by decide +kernel⟩
theorem sc_Floor_seen : FnScope ["self", "machine", "row"] ["self"] (defScope s_Floor_seen) := ⟨rfl, rfl, rfl, by decide +kernel, rfl, by decide +kernel, by decide +kernel⟩
theorem sc_Hall_init : FnScope ["self", "program", "works", "memory", "asks"] ["self", "program", "works", "memory", "asks"] (defScope s_Hall_init) := ⟨rfl, rfl, rfl, by decide +kernel, rfl, by decide +kernel, by decide +kernel⟩
theorem sc_Hall_beat : FnScope ["self"] ["self"] (defScope s_Hall_beat) := ⟨rfl, rfl, rfl, by decide +kernel, rfl, by decide +kernel, by decide +kernel⟩
theorem sc_Hall_shown : FnScope ["self"] ["self"] (defScope s_Hall_shown) := ⟨rfl, rfl, rfl, by decide +kernel, rfl, by decide +kernel, by decide +kernel⟩
theorem sc_run : FnScope ["program", "works", "memory", "asks", "beats", "hall", "told", "done"] ["program", "works", "memory", "asks", "beats"] (defScope s_run) := ⟨rfl, rfl, rfl, by decide +kernel, rfl, by decide +kernel, by decide +kernel⟩
theorem sc_Watch_init : FnScope ["self", "program", "works", "memory", "asks"] ["self", "program", "works", "memory", "asks"] (defScope s_Watch_init) := ⟨rfl, rfl, rfl, by decide +kernel, rfl, by decide +kernel, by decide +kernel⟩
theorem sc_Watch_run : FnScope ["self", "beats", "done"] ["self", "beats"] (defScope s_Watch_run) := ⟨rfl, rfl, rfl, by decide +kernel, rfl, by decide +kernel, by decide +kernel⟩
theorem sc_Watch_run_till : FnScope ["self", "row", "beats"] ["self", "row", "beats"] (defScope s_Watch_run_till) := ⟨rfl, rfl, rfl, by decide +kernel, rfl, by decide +kernel, by decide +kernel⟩
theorem sc_Watch_step : FnScope ["self", "floor", "when", "row", "moved", "did", "last"] ["self"] (defScope s_Watch_step) := ⟨rfl, rfl, rfl, by decide +kernel, rfl, by decide +kernel, by decide +kernel⟩
theorem sc_Watch_note_get : FnScope ["self", "row", "when", "address", "last"] ["self", "row", "when", "address", "last"] (defScope s_Watch_note_get) := ⟨rfl, rfl, rfl, by decide +kernel, rfl, by decide +kernel, by decide +kernel⟩
theorem sc_check_ahead : FnScope ["program", "works", "asks"] ["program", "works", "asks"] (defScope s_check_ahead) := ⟨rfl, rfl, rfl, by decide +kernel, rfl, by decide +kernel, by decide +kernel⟩
theorem sc_watched : FnScope ["program", "works", "asks", "watch"] ["program", "works", "asks"] (defScope s_watched) := ⟨rfl, rfl, rfl, by decide +kernel, rfl, by decide +kernel, by decide +kernel⟩
theorem sc_row_times : FnScope ["program", "works", "asks", "watch", "row"] ["program", "works", "asks"] (defScope s_row_times) := ⟨rfl, rfl, rfl, by decide +kernel, rfl, by decide +kernel, by decide +kernel⟩
theorem sc_times : FnScope ["program", "works", "asks"] ["program", "works", "asks"] (defScope s_times) := ⟨rfl, rfl, rfl, by decide +kernel, rfl, by decide +kernel, by decide +kernel⟩
theorem sc_l_dice : FnScope ["_law_script", "_law_k", "_law_found", "_law_cell"] ["_law_script", "_law_k"] (defScope s_l_dice) := ⟨rfl, rfl, rfl, by decide +kernel, rfl, by decide +kernel, by decide +kernel⟩
theorem sc_l_off : FnScope ["_law_d", "_law_most", "_law_at", "_law_cell"] ["_law_d", "_law_most"] (defScope s_l_off) := ⟨rfl, rfl, rfl, by decide +kernel, rfl, by decide +kernel, by decide +kernel⟩
theorem sc_l_words : FnScope ["_law_d", "_law_k"] ["_law_d"] (defScope s_l_words) := ⟨rfl, rfl, rfl, by decide +kernel, rfl, by decide +kernel, by decide +kernel⟩
theorem sc_l_work : FnScope ["_law_d", "_law_many", "_law_mark", "_law_follow", "_law_has_mark", "_law_has_next", "_law_size", "_law_greed", "_law_begin", "_law_goal", "_law_k"] ["_law_d", "_law_many"] (defScope s_l_work) := ⟨rfl, rfl, rfl, by decide +kernel, rfl, by decide +kernel, by decide +kernel⟩
theorem sc_l_row : FnScope ["_law_d", "_law_many", "_law_straight", "_law_words_here", "_law_word", "_law_r", "_law_s", "_law_address", "_law_some"] ["_law_d", "_law_many", "_law_straight"] (defScope s_l_row) := ⟨rfl, rfl, rfl, by decide +kernel, rfl, by decide +kernel, by decide +kernel⟩
theorem sc_l_program : FnScope ["_law_d", "_law_straight", "_law_many", "_law_k"] ["_law_d", "_law_straight"] (defScope s_l_program) := ⟨rfl, rfl, rfl, by decide +kernel, rfl, by decide +kernel, by decide +kernel⟩
theorem sc_l_asked : FnScope ["_law_d", "_law_many", "_law_beats", "_law_k", "_law_beat"] ["_law_d", "_law_many"] (defScope s_l_asked) := ⟨rfl, rfl, rfl, by decide +kernel, rfl, by decide +kernel, by decide +kernel⟩
theorem sc_law : FnScope ["_law_script", "_law_d", "_law_turn", "_law_program_here", "_law_memory", "_law_works", "_law_asks", "_law_at", "_law_number", "_law_asking", "_law_resting", "_law_beat", "_law_log", "_law_shown", "_law_some", "_law_fewer", "_law_hall", "_law_ends", "_law_cut", "_law_k", "_law_one"] ["_law_script"] (defScope s_law) := ⟨rfl, rfl, rfl, by decide +kernel, rfl, by decide +kernel, by decide +kernel⟩
def Ent (K : PySem.W.Frag) (g k : Str) (vs : List V) : Prop := ∃ p, PySem.W.nsIn K (He.ga K g) k = some (some (.ref p)) ∧ ∀ H, SqT K H p vs
def entB (K : PySem.W.Frag) (g k : Str) (vs : List V) : Bool := match PySem.W.nsIn K (He.ga K g) k with
  | some (some (.ref p)) => (match K.lookup p with
    | some ⟨.type c, _, .seq its _, _⟩ => decide (c = "tuple") && (decide (its.size ≤ sizeLine) && He.relAll vs its.toList)
    | _ => false)
  | _ => false
theorem entB_ok {K : PySem.W.Frag} {g k : Str} {vs : List V} (h : entB K g k vs = true) : Ent K g k vs := by
  unfold entB at h
  cases q : PySem.W.nsIn K (He.ga K g) k with
  | none => rw [q] at h; cases h
  | some r =>
    rw [q] at h
    cases r with
    | none => cases h
    | some u =>
      cases u with
      | ref p =>
        refine ⟨p, q, fun H => ?_⟩
        have h2 : (match K.lookup p with
          | some ⟨.type c, _, .seq its _, _⟩ => decide (c = "tuple") && (decide (its.size ≤ sizeLine) && He.relAll vs its.toList)
          | _ => false) = true := h
        cases q2 : K.lookup p with
        | none => rw [q2] at h2; cases h2
        | some o =>
          obtain ⟨oc, od, dt, osl⟩ := o
          rw [q2] at h2
          cases oc with
          | type c =>
            cases dt with
            | seq its n =>
              obtain ⟨h3, h4⟩ := He.ba h2
              obtain ⟨h5, h6⟩ := He.ba h4
              exact .inr ⟨_, its, n, q2, congrArg Value.type (of_decide_eq_true h3), rfl, of_decide_eq_true h5, He.relAll_ok h6⟩
            | _ => cases h2
          | _ => cases dt <;> cases h2
      | _ => cases h
structure T (w : World) (K : PySem.W.Frag) (mg : Str → Option Value) : Prop where
  g__wall : mg "_wall" = some (.ref (He.ga K "_wall"))
  g_is_number : mg "is_number" = some (.ref (He.ga K "is_number"))
  g_is_part : mg "is_part" = some (.ref (He.ga K "is_part"))
  g_is_one_of : mg "is_one_of" = some (.ref (He.ga K "is_one_of"))
  g_is_row : mg "is_row" = some (.ref (He.ga K "is_row"))
  g_is_work : mg "is_work" = some (.ref (He.ga K "is_work"))
  g_is_ask : mg "is_ask" = some (.ref (He.ga K "is_ask"))
  g_check_program : mg "check_program" = some (.ref (He.ga K "check_program"))
  g_check_works : mg "check_works" = some (.ref (He.ga K "check_works"))
  g_check_memory : mg "check_memory" = some (.ref (He.ga K "check_memory"))
  g_check_asks : mg "check_asks" = some (.ref (He.ga K "check_asks"))
  g_check_hall : mg "check_hall" = some (.ref (He.ga K "check_hall"))
  g_check_beats : mg "check_beats" = some (.ref (He.ga K "check_beats"))
  g_check_straight : mg "check_straight" = some (.ref (He.ga K "check_straight"))
  g_beats_of : mg "beats_of" = some (.ref (He.ga K "beats_of"))
  g_word_of : mg "word_of" = some (.ref (He.ga K "word_of"))
  g_run : mg "run" = some (.ref (He.ga K "run"))
  g_check_ahead : mg "check_ahead" = some (.ref (He.ga K "check_ahead"))
  g_watched : mg "watched" = some (.ref (He.ga K "watched"))
  g_row_times : mg "row_times" = some (.ref (He.ga K "row_times"))
  g_times : mg "times" = some (.ref (He.ga K "times"))
  g_l_dice : mg "_law_dice" = some (.ref (He.ga K "_law_dice"))
  g_l_off : mg "_law_off" = some (.ref (He.ga K "_law_off"))
  g_l_words : mg "_law_words" = some (.ref (He.ga K "_law_words"))
  g_l_work : mg "_law_work" = some (.ref (He.ga K "_law_work"))
  g_l_row : mg "_law_row" = some (.ref (He.ga K "_law_row"))
  g_l_program : mg "_law_program" = some (.ref (He.ga K "_law_program"))
  g_l_asked : mg "_law_asked" = some (.ref (He.ga K "_law_asked"))
  g_law : mg "law" = some (.ref (He.ga K "law"))
  g_Going : mg "Going" = some (.ref (He.ga K "Going"))
  cl_Going : Cls K (He.ga K "Going")
  mk_Going : Mk K (He.ga K "Going") (He.ma K (He.ga K "Going") "__init__")
  n_Going_number : NoAttr K (He.ga K "Going") "number"
  n_Going_hand : NoAttr K (He.ga K "Going") "hand"
  n_Going_puts : NoAttr K (He.ga K "Going") "puts"
  g_Work : mg "Work" = some (.ref (He.ga K "Work"))
  cl_Work : Cls K (He.ga K "Work")
  mk_Work : Mk K (He.ga K "Work") (He.ma K (He.ga K "Work") "__init__")
  n_Work_begin : NoAttr K (He.ga K "Work") "begin"
  n_Work_goal : NoAttr K (He.ga K "Work") "goal"
  n_Work_many : NoAttr K (He.ga K "Work") "many"
  n_Work_block : NoAttr K (He.ga K "Work") "block"
  n_Work_greed : NoAttr K (He.ga K "Work") "greed"
  n_Work_mark : NoAttr K (He.ga K "Work") "mark"
  n_Work_follow : NoAttr K (He.ga K "Work") "follow"
  n_Work_going : NoAttr K (He.ga K "Work") "going"
  m_Work_held_off : Meth K (He.ga K "Work") "held_off" (He.ma K (He.ga K "Work") "held_off")
  m_Work_may_take : Meth K (He.ga K "Work") "may_take" (He.ma K (He.ga K "Work") "may_take")
  m_Work_move : Meth K (He.ga K "Work") "move" (He.ma K (He.ga K "Work") "move")
  m_Work_fetch : Meth K (He.ga K "Work") "fetch" (He.ma K (He.ga K "Work") "fetch")
  m_Work_lay : Meth K (He.ga K "Work") "lay" (He.ma K (He.ga K "Work") "lay")
  g_Device : mg "Device" = some (.ref (He.ga K "Device"))
  cl_Device : Cls K (He.ga K "Device")
  mk_Device : Mk K (He.ga K "Device") (He.ma K (He.ga K "Device") "__init__")
  n_Device_works : NoAttr K (He.ga K "Device") "works"
  n_Device_took : NoAttr K (He.ga K "Device") "took"
  n_Device_begun : NoAttr K (He.ga K "Device") "begun"
  m_Device_is_on : Meth K (He.ga K "Device") "is_on" (He.ma K (He.ga K "Device") "is_on")
  m_Device_wake : Meth K (He.ga K "Device") "wake" (He.ma K (He.ga K "Device") "wake")
  m_Device_start : Meth K (He.ga K "Device") "start" (He.ma K (He.ga K "Device") "start")
  m_Device_move : Meth K (He.ga K "Device") "move" (He.ma K (He.ga K "Device") "move")
  m_Device_taker : Meth K (He.ga K "Device") "taker" (He.ma K (He.ga K "Device") "taker")
  m_Device_numbers_on : Meth K (He.ga K "Device") "numbers_on" (He.ma K (He.ga K "Device") "numbers_on")
  m_Device_shown_on : Meth K (He.ga K "Device") "shown_on" (He.ma K (He.ga K "Device") "shown_on")
  g_Machine : mg "Machine" = some (.ref (He.ga K "Machine"))
  cl_Machine : Cls K (He.ga K "Machine")
  mk_Machine : Mk K (He.ga K "Machine") (He.ma K (He.ga K "Machine") "__init__")
  n_Machine_program : NoAttr K (He.ga K "Machine") "program"
  n_Machine_cells : NoAttr K (He.ga K "Machine") "cells"
  n_Machine_marks : NoAttr K (He.ga K "Machine") "marks"
  n_Machine_row : NoAttr K (He.ga K "Machine") "row"
  n_Machine_spent : NoAttr K (He.ga K "Machine") "spent"
  m_Machine_ended : Meth K (He.ga K "Machine") "ended" (He.ma K (He.ga K "Machine") "ended")
  m_Machine_wanted : Meth K (He.ga K "Machine") "wanted" (He.ma K (He.ga K "Machine") "wanted")
  m_Machine_step : Meth K (He.ga K "Machine") "step" (He.ma K (He.ga K "Machine") "step")
  m_Machine_use_word : Meth K (He.ga K "Machine") "use_word" (He.ma K (He.ga K "Machine") "use_word")
  m_Machine_finish : Meth K (He.ga K "Machine") "finish" (He.ma K (He.ga K "Machine") "finish")
  m_Machine_reckoned : Meth K (He.ga K "Machine") "reckoned" (He.ma K (He.ga K "Machine") "reckoned")
  g_Floor : mg "Floor" = some (.ref (He.ga K "Floor"))
  cl_Floor : Cls K (He.ga K "Floor")
  mk_Floor : Mk K (He.ga K "Floor") (He.ma K (He.ga K "Floor") "__init__")
  n_Floor_machine : NoAttr K (He.ga K "Floor") "machine"
  n_Floor_device : NoAttr K (He.ga K "Floor") "device"
  n_Floor_words : NoAttr K (He.ga K "Floor") "words"
  n_Floor_asks : NoAttr K (He.ga K "Floor") "asks"
  n_Floor_beats : NoAttr K (He.ga K "Floor") "beats"
  m_Floor_pass_beat : Meth K (He.ga K "Floor") "pass_beat" (He.ma K (He.ga K "Floor") "pass_beat")
  m_Floor_seen : Meth K (He.ga K "Floor") "seen" (He.ma K (He.ga K "Floor") "seen")
  g_Hall : mg "Hall" = some (.ref (He.ga K "Hall"))
  cl_Hall : Cls K (He.ga K "Hall")
  mk_Hall : Mk K (He.ga K "Hall") (He.ma K (He.ga K "Hall") "__init__")
  n_Hall_floor : NoAttr K (He.ga K "Hall") "floor"
  m_Hall_beat : Meth K (He.ga K "Hall") "beat" (He.ma K (He.ga K "Hall") "beat")
  m_Hall_shown : Meth K (He.ga K "Hall") "shown" (He.ma K (He.ga K "Hall") "shown")
  g_Watch : mg "Watch" = some (.ref (He.ga K "Watch"))
  cl_Watch : Cls K (He.ga K "Watch")
  mk_Watch : Mk K (He.ga K "Watch") (He.ma K (He.ga K "Watch") "__init__")
  n_Watch_floor : NoAttr K (He.ga K "Watch") "floor"
  n_Watch_dones : NoAttr K (He.ga K "Watch") "dones"
  n_Watch_on_behind : NoAttr K (He.ga K "Watch") "on_behind"
  n_Watch_pairs : NoAttr K (He.ga K "Watch") "pairs"
  n_Watch_first_get : NoAttr K (He.ga K "Watch") "first_get"
  n_Watch_goings : NoAttr K (He.ga K "Watch") "goings"
  m_Watch_run : Meth K (He.ga K "Watch") "run" (He.ma K (He.ga K "Watch") "run")
  m_Watch_run_till : Meth K (He.ga K "Watch") "run_till" (He.ma K (He.ga K "Watch") "run_till")
  m_Watch_step : Meth K (He.ga K "Watch") "step" (He.ma K (He.ga K "Watch") "step")
  m_Watch_note_get : Meth K (He.ga K "Watch") "note_get" (He.ma K (He.ga K "Watch") "note_get")
  u_abs : mg "abs" = none
  u_bool : mg "bool" = none
  u_enumerate : mg "enumerate" = none
  u_int : mg "int" = none
  u_isinstance : mg "isinstance" = none
  u_len : mg "len" = none
  u_list : mg "list" = none
  u_max : mg "max" = none
  u_range : mg "range" = none
  u_sorted : mg "sorted" = none
  u_str : mg "str" = none
  u_tuple : mg "tuple" = none
  u_zip : mg "zip" = none
  i_FEWEST_WORDS : ∃ t, mg "FEWEST_WORDS" = some (.int 4 t)
  i_MOST_WORDS : ∃ t, mg "MOST_WORDS" = some (.int 32 t)
  i_MOST_ROWS : ∃ t, mg "MOST_ROWS" = some (.int 40 t)
  i_MOST_WORKS : ∃ t, mg "MOST_WORKS" = some (.int 6 t)
  i_MOST_ASKS : ∃ t, mg "MOST_ASKS" = some (.int 8 t)
  i_MOST_BEATS : ∃ t, mg "MOST_BEATS" = some (.int 300 t)
  i_CELLS : ∃ t, mg "CELLS" = some (.int 4 t)
  i_MARKS : ∃ t, mg "MARKS" = some (.int 3 t)
  i_WORTHS : ∃ t, mg "WORTHS" = some (.int 1000 t)
  g_GREEDS : mg "GREEDS" = some (.ref (He.ga K "GREEDS"))
  g_FORMS : mg "FORMS" = some (.ref (He.ga K "FORMS"))
  g_BOUNDS : mg "BOUNDS" = some (.ref (He.ga K "BOUNDS"))
  f__wall : ∃ fd, FunD K "_wall" "_wall" (defArgs s__wall) (defBody s__wall) (defScope s__wall) [] [] (He.ga K "_wall") fd
  f_is_number : ∃ fd, FunD K "is_number" "is_number" (defArgs s_is_number) (defBody s_is_number) (defScope s_is_number) [] [] (He.ga K "is_number") fd
  f_is_part : ∃ fd, FunD K "is_part" "is_part" (defArgs s_is_part) (defBody s_is_part) (defScope s_is_part) [] [] (He.ga K "is_part") fd
  f_is_one_of : ∃ fd, FunD K "is_one_of" "is_one_of" (defArgs s_is_one_of) (defBody s_is_one_of) (defScope s_is_one_of) [] [] (He.ga K "is_one_of") fd
  f_is_row : ∃ fd, FunD K "is_row" "is_row" (defArgs s_is_row) (defBody s_is_row) (defScope s_is_row) [] [] (He.ga K "is_row") fd
  f_is_work : ∃ fd, FunD K "is_work" "is_work" (defArgs s_is_work) (defBody s_is_work) (defScope s_is_work) [] [] (He.ga K "is_work") fd
  f_is_ask : ∃ fd, FunD K "is_ask" "is_ask" (defArgs s_is_ask) (defBody s_is_ask) (defScope s_is_ask) [] [] (He.ga K "is_ask") fd
  f_check_program : ∃ fd, FunD K "check_program" "check_program" (defArgs s_check_program) (defBody s_check_program) (defScope s_check_program) [] [] (He.ga K "check_program") fd
  f_check_works : ∃ fd, FunD K "check_works" "check_works" (defArgs s_check_works) (defBody s_check_works) (defScope s_check_works) [] [] (He.ga K "check_works") fd
  f_check_memory : ∃ fd, FunD K "check_memory" "check_memory" (defArgs s_check_memory) (defBody s_check_memory) (defScope s_check_memory) [] [] (He.ga K "check_memory") fd
  f_check_asks : ∃ fd, FunD K "check_asks" "check_asks" (defArgs s_check_asks) (defBody s_check_asks) (defScope s_check_asks) [] [] (He.ga K "check_asks") fd
  f_check_hall : ∃ fd, FunD K "check_hall" "check_hall" (defArgs s_check_hall) (defBody s_check_hall) (defScope s_check_hall) [] [] (He.ga K "check_hall") fd
  f_check_beats : ∃ fd, FunD K "check_beats" "check_beats" (defArgs s_check_beats) (defBody s_check_beats) (defScope s_check_beats) [] [] (He.ga K "check_beats") fd
  f_check_straight : ∃ fd, FunD K "check_straight" "check_straight" (defArgs s_check_straight) (defBody s_check_straight) (defScope s_check_straight) [] [] (He.ga K "check_straight") fd
  f_Going_init : ∃ fd, FunD K "__init__" "Going.__init__" (defArgs s_Going_init) (defBody s_Going_init) (defScope s_Going_init) [] [] (He.ma K (He.ga K "Going") "__init__") fd
  f_Work_init : ∃ fd, FunD K "__init__" "Work.__init__" (defArgs s_Work_init) (defBody s_Work_init) (defScope s_Work_init) [] [] (He.ma K (He.ga K "Work") "__init__") fd
  f_Work_held_off : ∃ fd, FunD K "held_off" "Work.held_off" (defArgs s_Work_held_off) (defBody s_Work_held_off) (defScope s_Work_held_off) [] [] (He.ma K (He.ga K "Work") "held_off") fd
  f_Work_may_take : ∃ fd, FunD K "may_take" "Work.may_take" (defArgs s_Work_may_take) (defBody s_Work_may_take) (defScope s_Work_may_take) [] [] (He.ma K (He.ga K "Work") "may_take") fd
  f_Work_move : ∃ fd, FunD K "move" "Work.move" (defArgs s_Work_move) (defBody s_Work_move) (defScope s_Work_move) [] [] (He.ma K (He.ga K "Work") "move") fd
  f_Work_fetch : ∃ fd, FunD K "fetch" "Work.fetch" (defArgs s_Work_fetch) (defBody s_Work_fetch) (defScope s_Work_fetch) [] [] (He.ma K (He.ga K "Work") "fetch") fd
  f_Work_lay : ∃ fd, FunD K "lay" "Work.lay" (defArgs s_Work_lay) (defBody s_Work_lay) (defScope s_Work_lay) [] [] (He.ma K (He.ga K "Work") "lay") fd
  f_Device_init : ∃ fd, FunD K "__init__" "Device.__init__" (defArgs s_Device_init) (defBody s_Device_init) (defScope s_Device_init) [] [] (He.ma K (He.ga K "Device") "__init__") fd
  f_Device_is_on : ∃ fd, FunD K "is_on" "Device.is_on" (defArgs s_Device_is_on) (defBody s_Device_is_on) (defScope s_Device_is_on) [] [] (He.ma K (He.ga K "Device") "is_on") fd
  f_Device_wake : ∃ fd, FunD K "wake" "Device.wake" (defArgs s_Device_wake) (defBody s_Device_wake) (defScope s_Device_wake) [] [] (He.ma K (He.ga K "Device") "wake") fd
  f_Device_start : ∃ fd, FunD K "start" "Device.start" (defArgs s_Device_start) (defBody s_Device_start) (defScope s_Device_start) [] [] (He.ma K (He.ga K "Device") "start") fd
  f_Device_move : ∃ fd, FunD K "move" "Device.move" (defArgs s_Device_move) (defBody s_Device_move) (defScope s_Device_move) [] [] (He.ma K (He.ga K "Device") "move") fd
  f_Device_taker : ∃ fd, FunD K "taker" "Device.taker" (defArgs s_Device_taker) (defBody s_Device_taker) (defScope s_Device_taker) [] [] (He.ma K (He.ga K "Device") "taker") fd
  f_Device_numbers_on : ∃ fd, FunD K "numbers_on" "Device.numbers_on" (defArgs s_Device_numbers_on) (defBody s_Device_numbers_on) (defScope s_Device_numbers_on) [] [] (He.ma K (He.ga K "Device") "numbers_on") fd
  f_Device_shown_on : ∃ fd, FunD K "shown_on" "Device.shown_on" (defArgs s_Device_shown_on) (defBody s_Device_shown_on) (defScope s_Device_shown_on) [] [] (He.ma K (He.ga K "Device") "shown_on") fd
  f_beats_of : ∃ fd, FunD K "beats_of" "beats_of" (defArgs s_beats_of) (defBody s_beats_of) (defScope s_beats_of) [] [] (He.ga K "beats_of") fd
  f_word_of : ∃ fd, FunD K "word_of" "word_of" (defArgs s_word_of) (defBody s_word_of) (defScope s_word_of) [] [] (He.ga K "word_of") fd
  f_Machine_init : ∃ fd, FunD K "__init__" "Machine.__init__" (defArgs s_Machine_init) (defBody s_Machine_init) (defScope s_Machine_init) [] [] (He.ma K (He.ga K "Machine") "__init__") fd
  f_Machine_ended : ∃ fd, FunD K "ended" "Machine.ended" (defArgs s_Machine_ended) (defBody s_Machine_ended) (defScope s_Machine_ended) [] [] (He.ma K (He.ga K "Machine") "ended") fd
  f_Machine_wanted : ∃ fd, FunD K "wanted" "Machine.wanted" (defArgs s_Machine_wanted) (defBody s_Machine_wanted) (defScope s_Machine_wanted) [] [] (He.ma K (He.ga K "Machine") "wanted") fd
  f_Machine_step : ∃ fd, FunD K "step" "Machine.step" (defArgs s_Machine_step) (defBody s_Machine_step) (defScope s_Machine_step) [] [] (He.ma K (He.ga K "Machine") "step") fd
  f_Machine_use_word : ∃ fd, FunD K "use_word" "Machine.use_word" (defArgs s_Machine_use_word) (defBody s_Machine_use_word) (defScope s_Machine_use_word) [] [] (He.ma K (He.ga K "Machine") "use_word") fd
  f_Machine_finish : ∃ fd, FunD K "finish" "Machine.finish" (defArgs s_Machine_finish) (defBody s_Machine_finish) (defScope s_Machine_finish) [] [] (He.ma K (He.ga K "Machine") "finish") fd
  f_Machine_reckoned : ∃ fd, FunD K "reckoned" "Machine.reckoned" (defArgs s_Machine_reckoned) (defBody s_Machine_reckoned) (defScope s_Machine_reckoned) [] [] (He.ma K (He.ga K "Machine") "reckoned") fd
  f_Floor_init : ∃ fd, FunD K "__init__" "Floor.__init__" (defArgs s_Floor_init) (defBody s_Floor_init) (defScope s_Floor_init) [] [] (He.ma K (He.ga K "Floor") "__init__") fd
  f_Floor_pass_beat : ∃ fd, FunD K "pass_beat" "Floor.pass_beat" (defArgs s_Floor_pass_beat) (defBody s_Floor_pass_beat) (defScope s_Floor_pass_beat) [] [] (He.ma K (He.ga K "Floor") "pass_beat") fd
  f_Floor_seen : ∃ fd, FunD K "seen" "Floor.seen" (defArgs s_Floor_seen) (defBody s_Floor_seen) (defScope s_Floor_seen) [] [] (He.ma K (He.ga K "Floor") "seen") fd
  f_Hall_init : ∃ fd, FunD K "__init__" "Hall.__init__" (defArgs s_Hall_init) (defBody s_Hall_init) (defScope s_Hall_init) [] [] (He.ma K (He.ga K "Hall") "__init__") fd
  f_Hall_beat : ∃ fd, FunD K "beat" "Hall.beat" (defArgs s_Hall_beat) (defBody s_Hall_beat) (defScope s_Hall_beat) [] [] (He.ma K (He.ga K "Hall") "beat") fd
  f_Hall_shown : ∃ fd, FunD K "shown" "Hall.shown" (defArgs s_Hall_shown) (defBody s_Hall_shown) (defScope s_Hall_shown) [] [] (He.ma K (He.ga K "Hall") "shown") fd
  f_run : ∃ fd, FunD K "run" "run" (defArgs s_run) (defBody s_run) (defScope s_run) [] [] (He.ga K "run") fd
  f_Watch_init : ∃ fd, FunD K "__init__" "Watch.__init__" (defArgs s_Watch_init) (defBody s_Watch_init) (defScope s_Watch_init) [] [] (He.ma K (He.ga K "Watch") "__init__") fd
  f_Watch_run : ∃ fd, FunD K "run" "Watch.run" (defArgs s_Watch_run) (defBody s_Watch_run) (defScope s_Watch_run) [] [] (He.ma K (He.ga K "Watch") "run") fd
  f_Watch_run_till : ∃ fd, FunD K "run_till" "Watch.run_till" (defArgs s_Watch_run_till) (defBody s_Watch_run_till) (defScope s_Watch_run_till) [] [] (He.ma K (He.ga K "Watch") "run_till") fd
  f_Watch_step : ∃ fd, FunD K "step" "Watch.step" (defArgs s_Watch_step) (defBody s_Watch_step) (defScope s_Watch_step) [] [] (He.ma K (He.ga K "Watch") "step") fd
  f_Watch_note_get : ∃ fd, FunD K "note_get" "Watch.note_get" (defArgs s_Watch_note_get) (defBody s_Watch_note_get) (defScope s_Watch_note_get) [] [] (He.ma K (He.ga K "Watch") "note_get") fd
  f_check_ahead : ∃ fd, FunD K "check_ahead" "check_ahead" (defArgs s_check_ahead) (defBody s_check_ahead) (defScope s_check_ahead) [] [] (He.ga K "check_ahead") fd
  f_watched : ∃ fd, FunD K "watched" "watched" (defArgs s_watched) (defBody s_watched) (defScope s_watched) [] [] (He.ga K "watched") fd
  f_row_times : ∃ fd, FunD K "row_times" "row_times" (defArgs s_row_times) (defBody s_row_times) (defScope s_row_times) [] [] (He.ga K "row_times") fd
  f_times : ∃ fd, FunD K "times" "times" (defArgs s_times) (defBody s_times) (defScope s_times) [] [] (He.ga K "times") fd
  f_l_dice : ∃ fd, FunD K "_law_dice" "_law_dice" (defArgs s_l_dice) (defBody s_l_dice) (defScope s_l_dice) [] [] (He.ga K "_law_dice") fd
  f_l_off : ∃ fd, FunD K "_law_off" "_law_off" (defArgs s_l_off) (defBody s_l_off) (defScope s_l_off) [] [] (He.ga K "_law_off") fd
  f_l_words : ∃ fd, FunD K "_law_words" "_law_words" (defArgs s_l_words) (defBody s_l_words) (defScope s_l_words) [] [] (He.ga K "_law_words") fd
  f_l_work : ∃ fd, FunD K "_law_work" "_law_work" (defArgs s_l_work) (defBody s_l_work) (defScope s_l_work) [] [] (He.ga K "_law_work") fd
  f_l_row : ∃ fd, FunD K "_law_row" "_law_row" (defArgs s_l_row) (defBody s_l_row) (defScope s_l_row) [] [] (He.ga K "_law_row") fd
  f_l_program : ∃ fd, FunD K "_law_program" "_law_program" (defArgs s_l_program) (defBody s_l_program) (defScope s_l_program) [] [] (He.ga K "_law_program") fd
  f_l_asked : ∃ fd, FunD K "_law_asked" "_law_asked" (defArgs s_l_asked) (defBody s_l_asked) (defScope s_l_asked) [] [] (He.ga K "_law_asked") fd
  f_law : ∃ fd, FunD K "law" "law" (defArgs s_law) (defBody s_law) (defScope s_law) [] [] (He.ga K "law") fd
  d_FORMS : ∃ es n, KDict K w (He.ga K "FORMS") es n
  d_BOUNDS : ∃ es n, KDict K w (He.ga K "BOUNDS") es n
  tt_GREEDS : ∀ H, SqT K H (He.ga K "GREEDS") [.str "all", .str "turn", .str "idle"]
  e_FORMS_set : Ent K "FORMS" "set" [.str "cell", .str "word"]
  e_FORMS_add : Ent K "FORMS" "add" [.str "cell", .str "cell"]
  e_FORMS_less : Ent K "FORMS" "less" [.str "cell", .str "cell"]
  e_FORMS_get : Ent K "FORMS" "get" [.str "cell", .str "address"]
  e_FORMS_put : Ent K "FORMS" "put" [.str "address", .str "cell"]
  e_FORMS_getx : Ent K "FORMS" "getx" [.str "cell", .str "cell"]
  e_FORMS_putx : Ent K "FORMS" "putx" [.str "cell", .str "cell"]
  e_FORMS_pair : Ent K "FORMS" "pair" [.str "first", .str "address"]
  e_FORMS_lay : Ent K "FORMS" "lay" [.str "address", .str "first"]
  e_FORMS_go : Ent K "FORMS" "go" [.str "row"]
  e_FORMS_if : Ent K "FORMS" "if" [.str "cell", .str "row"]
  e_FORMS_ask : Ent K "FORMS" "ask" [.str "work"]
  e_FORMS_done : Ent K "FORMS" "done" [.str "cell", .str "work"]
  e_FORMS_mark : Ent K "FORMS" "mark" [.str "mark"]
  e_FORMS_clear : Ent K "FORMS" "clear" [.str "mark"]
  e_FORMS_rest : Ent K "FORMS" "rest" [.str "rest"]
  e_FORMS_end : Ent K "FORMS" "end" []
  e_BOUNDS_cell : Ent K "BOUNDS" "cell" [.int 0, .int 3]
  e_BOUNDS_first : Ent K "BOUNDS" "first" [.int 0, .int 2]
  e_BOUNDS_word : Ent K "BOUNDS" "word" [.int 0, .int 999]
  e_BOUNDS_address : Ent K "BOUNDS" "address" [.int 0, .int 31]
  e_BOUNDS_work : Ent K "BOUNDS" "work" [.int 0, .int 5]
  e_BOUNDS_mark : Ent K "BOUNDS" "mark" [.int 0, .int 2]
  e_BOUNDS_rest : Ent K "BOUNDS" "rest" [.int 1, .int 9]
  e_BOUNDS_many : Ent K "BOUNDS" "many" [.int 1, .int 16]
  e_BOUNDS_block : Ent K "BOUNDS" "block" [.int 1, .int 4]
  e_BOUNDS_ask : Ent K "BOUNDS" "ask" [.int 0, .int 200]
  k__wall : PySem.W.keepIn K (.ref (He.ga K "_wall")) = true
  k_is_number : PySem.W.keepIn K (.ref (He.ga K "is_number")) = true
  k_is_part : PySem.W.keepIn K (.ref (He.ga K "is_part")) = true
  k_is_one_of : PySem.W.keepIn K (.ref (He.ga K "is_one_of")) = true
  k_is_row : PySem.W.keepIn K (.ref (He.ga K "is_row")) = true
  k_is_work : PySem.W.keepIn K (.ref (He.ga K "is_work")) = true
  k_is_ask : PySem.W.keepIn K (.ref (He.ga K "is_ask")) = true
  k_check_program : PySem.W.keepIn K (.ref (He.ga K "check_program")) = true
  k_check_works : PySem.W.keepIn K (.ref (He.ga K "check_works")) = true
  k_check_memory : PySem.W.keepIn K (.ref (He.ga K "check_memory")) = true
  k_check_asks : PySem.W.keepIn K (.ref (He.ga K "check_asks")) = true
  k_check_hall : PySem.W.keepIn K (.ref (He.ga K "check_hall")) = true
  k_check_beats : PySem.W.keepIn K (.ref (He.ga K "check_beats")) = true
  k_check_straight : PySem.W.keepIn K (.ref (He.ga K "check_straight")) = true
  k_beats_of : PySem.W.keepIn K (.ref (He.ga K "beats_of")) = true
  k_word_of : PySem.W.keepIn K (.ref (He.ga K "word_of")) = true
  k_run : PySem.W.keepIn K (.ref (He.ga K "run")) = true
  k_check_ahead : PySem.W.keepIn K (.ref (He.ga K "check_ahead")) = true
  k_watched : PySem.W.keepIn K (.ref (He.ga K "watched")) = true
  k_row_times : PySem.W.keepIn K (.ref (He.ga K "row_times")) = true
  k_times : PySem.W.keepIn K (.ref (He.ga K "times")) = true
  k_l_dice : PySem.W.keepIn K (.ref (He.ga K "_law_dice")) = true
  k_l_off : PySem.W.keepIn K (.ref (He.ga K "_law_off")) = true
  k_l_words : PySem.W.keepIn K (.ref (He.ga K "_law_words")) = true
  k_l_work : PySem.W.keepIn K (.ref (He.ga K "_law_work")) = true
  k_l_row : PySem.W.keepIn K (.ref (He.ga K "_law_row")) = true
  k_l_program : PySem.W.keepIn K (.ref (He.ga K "_law_program")) = true
  k_l_asked : PySem.W.keepIn K (.ref (He.ga K "_law_asked")) = true
  k_law : PySem.W.keepIn K (.ref (He.ga K "law")) = true
end SB

set_option Elab.async false
set_option linter.all false
set_option maxRecDepth 100000
set_option maxHeartbeats 2000000
namespace SB
open PySem PySem.Spec PyProof.Rows L2
def oV : Option Int → V
  | none => .non
  | some i => .int i
def oA : Option Addr → V
  | none => .non
  | some a => .ref a
structure Wk where
  begin : Int
  goal : Int
  many : Int
  block : Int
  greed : Str
  mark : Option Int
  follow : Option Int
  on : Bool
  laid : Int
  hand : Option Int
structure Wo where
  begin : Int
  goal : Int
  many : Int
  block : Int
  greed : Str
  mark : Option Int
  follow : Option Int
  going : Option Addr
def woF (k : Wo) : List (Str × V) := [("begin", .int k.begin), ("goal", .int k.goal), ("many", .int k.many), ("block", .int k.block), ("greed", .str k.greed), ("mark", oV k.mark), ("follow", oV k.follow), ("going", oA k.going)]
abbrev cWork (K : PySem.W.Frag) : Addr := He.ga K "Work"
theorem wo_begin (k : Wo) : (woF k).lookup ("begin" : Str) = some (V.int k.begin) := by kernel_rfl
theorem wo_put_begin (k : Wo) (x : Int) : putF ("begin" : Str) (V.int x) (woF k) = woF { k with begin := x } := by kernel_rfl
theorem wo_goal (k : Wo) : (woF k).lookup ("goal" : Str) = some (V.int k.goal) := by kernel_rfl
theorem wo_put_goal (k : Wo) (x : Int) : putF ("goal" : Str) (V.int x) (woF k) = woF { k with goal := x } := by kernel_rfl
theorem wo_many (k : Wo) : (woF k).lookup ("many" : Str) = some (V.int k.many) := by kernel_rfl
theorem wo_put_many (k : Wo) (x : Int) : putF ("many" : Str) (V.int x) (woF k) = woF { k with many := x } := by kernel_rfl
theorem wo_block (k : Wo) : (woF k).lookup ("block" : Str) = some (V.int k.block) := by kernel_rfl
theorem wo_put_block (k : Wo) (x : Int) : putF ("block" : Str) (V.int x) (woF k) = woF { k with block := x } := by kernel_rfl
theorem wo_greed (k : Wo) : (woF k).lookup ("greed" : Str) = some (V.str k.greed) := by kernel_rfl
theorem wo_put_greed (k : Wo) (x : Str) : putF ("greed" : Str) (V.str x) (woF k) = woF { k with greed := x } := by kernel_rfl
theorem wo_mark (k : Wo) : (woF k).lookup ("mark" : Str) = some (oV k.mark) := by kernel_rfl
theorem wo_put_mark (k : Wo) (x : Option Int) : putF ("mark" : Str) (oV x) (woF k) = woF { k with mark := x } := by kernel_rfl
theorem wo_follow (k : Wo) : (woF k).lookup ("follow" : Str) = some (oV k.follow) := by kernel_rfl
theorem wo_put_follow (k : Wo) (x : Option Int) : putF ("follow" : Str) (oV x) (woF k) = woF { k with follow := x } := by kernel_rfl
theorem wo_going (k : Wo) : (woF k).lookup ("going" : Str) = some (oA k.going) := by kernel_rfl
theorem wo_put_going (k : Wo) (x : Option Addr) : putF ("going" : Str) (oA x) (woF k) = woF { k with going := x } := by kernel_rfl
theorem wo_no_held_off (k : Wo) : (woF k).lookup ("held_off" : Str) = none := by kernel_rfl
theorem wo_no_may_take (k : Wo) : (woF k).lookup ("may_take" : Str) = none := by kernel_rfl
theorem wo_no_move (k : Wo) : (woF k).lookup ("move" : Str) = none := by kernel_rfl
theorem wo_no_fetch (k : Wo) : (woF k).lookup ("fetch" : Str) = none := by kernel_rfl
theorem wo_no_lay (k : Wo) : (woF k).lookup ("lay" : Str) = none := by kernel_rfl
theorem wo_len (k : Wo) : (woF k).length < 1000 := by show 8 < 1000; decide
theorem wo_put_goingN (k : Wo) : putF ("going" : Str) V.non (woF k) = woF { k with going := none } := by kernel_rfl
theorem wo_put_goingS (k : Wo) (x : Addr) : putF ("going" : Str) (V.ref x) (woF k) = woF { k with going := some x } := by kernel_rfl
theorem wo_made (begin : Int) (goal : Int) (many : Int) (block : Int) (greed : Str) (mark : Option Int) (follow : Option Int) (going : Option Addr) : putF ("going" : Str) (oA going) (putF ("follow" : Str) (oV follow) (putF ("mark" : Str) (oV mark) (putF ("greed" : Str) (V.str greed) (putF ("block" : Str) (V.int block) (putF ("many" : Str) (V.int many) (putF ("goal" : Str) (V.int goal) (putF ("begin" : Str) (V.int begin) (([] : List (Str × V)))))))))) = woF ⟨begin, goal, many, block, greed, mark, follow, going⟩ := by kernel_rfl
structure Gg where
  number : Int
  hand : Option Int
  puts : Addr
def ggF (k : Gg) : List (Str × V) := [("number", .int k.number), ("hand", oV k.hand), ("puts", .ref k.puts)]
abbrev cGoing (K : PySem.W.Frag) : Addr := He.ga K "Going"
theorem gg_number (k : Gg) : (ggF k).lookup ("number" : Str) = some (V.int k.number) := by kernel_rfl
theorem gg_put_number (k : Gg) (x : Int) : putF ("number" : Str) (V.int x) (ggF k) = ggF { k with number := x } := by kernel_rfl
theorem gg_hand (k : Gg) : (ggF k).lookup ("hand" : Str) = some (oV k.hand) := by kernel_rfl
theorem gg_put_hand (k : Gg) (x : Option Int) : putF ("hand" : Str) (oV x) (ggF k) = ggF { k with hand := x } := by kernel_rfl
theorem gg_puts (k : Gg) : (ggF k).lookup ("puts" : Str) = some (V.ref k.puts) := by kernel_rfl
theorem gg_put_puts (k : Gg) (x : Addr) : putF ("puts" : Str) (V.ref x) (ggF k) = ggF { k with puts := x } := by kernel_rfl
theorem gg_len (k : Gg) : (ggF k).length < 1000 := by show 3 < 1000; decide
theorem gg_put_handN (k : Gg) : putF ("hand" : Str) V.non (ggF k) = ggF { k with hand := none } := by kernel_rfl
theorem gg_put_handS (k : Gg) (x : Int) : putF ("hand" : Str) (V.int x) (ggF k) = ggF { k with hand := some x } := by kernel_rfl
theorem gg_made (number : Int) (hand : Option Int) (puts : Addr) : putF ("puts" : Str) (V.ref puts) (putF ("hand" : Str) (oV hand) (putF ("number" : Str) (V.int number) (([] : List (Str × V))))) = ggF ⟨number, hand, puts⟩ := by kernel_rfl
structure Dv where
  works : Addr
  took : Bool
  begun : Addr
def dvF (k : Dv) : List (Str × V) := [("works", .ref k.works), ("took", .bl k.took), ("begun", .ref k.begun)]
abbrev cDevice (K : PySem.W.Frag) : Addr := He.ga K "Device"
theorem dv_works (k : Dv) : (dvF k).lookup ("works" : Str) = some (V.ref k.works) := by kernel_rfl
theorem dv_put_works (k : Dv) (x : Addr) : putF ("works" : Str) (V.ref x) (dvF k) = dvF { k with works := x } := by kernel_rfl
theorem dv_took (k : Dv) : (dvF k).lookup ("took" : Str) = some (V.bl k.took) := by kernel_rfl
theorem dv_put_took (k : Dv) (x : Bool) : putF ("took" : Str) (V.bl x) (dvF k) = dvF { k with took := x } := by kernel_rfl
theorem dv_begun (k : Dv) : (dvF k).lookup ("begun" : Str) = some (V.ref k.begun) := by kernel_rfl
theorem dv_put_begun (k : Dv) (x : Addr) : putF ("begun" : Str) (V.ref x) (dvF k) = dvF { k with begun := x } := by kernel_rfl
theorem dv_no_is_on (k : Dv) : (dvF k).lookup ("is_on" : Str) = none := by kernel_rfl
theorem dv_no_wake (k : Dv) : (dvF k).lookup ("wake" : Str) = none := by kernel_rfl
theorem dv_no_start (k : Dv) : (dvF k).lookup ("start" : Str) = none := by kernel_rfl
theorem dv_no_move (k : Dv) : (dvF k).lookup ("move" : Str) = none := by kernel_rfl
theorem dv_no_taker (k : Dv) : (dvF k).lookup ("taker" : Str) = none := by kernel_rfl
theorem dv_no_numbers_on (k : Dv) : (dvF k).lookup ("numbers_on" : Str) = none := by kernel_rfl
theorem dv_no_shown_on (k : Dv) : (dvF k).lookup ("shown_on" : Str) = none := by kernel_rfl
theorem dv_len (k : Dv) : (dvF k).length < 1000 := by show 3 < 1000; decide
theorem dv_made (works : Addr) (took : Bool) (begun : Addr) : putF ("begun" : Str) (V.ref begun) (putF ("took" : Str) (V.bl took) (putF ("works" : Str) (V.ref works) (([] : List (Str × V))))) = dvF ⟨works, took, begun⟩ := by kernel_rfl
structure Mc where
  program : Addr
  cells : Addr
  marks : Addr
  row : Int
  spent : Int
def mcF (k : Mc) : List (Str × V) := [("program", .ref k.program), ("cells", .ref k.cells), ("marks", .ref k.marks), ("row", .int k.row), ("spent", .int k.spent)]
abbrev cMachine (K : PySem.W.Frag) : Addr := He.ga K "Machine"
theorem mc_program (k : Mc) : (mcF k).lookup ("program" : Str) = some (V.ref k.program) := by kernel_rfl
theorem mc_put_program (k : Mc) (x : Addr) : putF ("program" : Str) (V.ref x) (mcF k) = mcF { k with program := x } := by kernel_rfl
theorem mc_cells (k : Mc) : (mcF k).lookup ("cells" : Str) = some (V.ref k.cells) := by kernel_rfl
theorem mc_put_cells (k : Mc) (x : Addr) : putF ("cells" : Str) (V.ref x) (mcF k) = mcF { k with cells := x } := by kernel_rfl
theorem mc_marks (k : Mc) : (mcF k).lookup ("marks" : Str) = some (V.ref k.marks) := by kernel_rfl
theorem mc_put_marks (k : Mc) (x : Addr) : putF ("marks" : Str) (V.ref x) (mcF k) = mcF { k with marks := x } := by kernel_rfl
theorem mc_row (k : Mc) : (mcF k).lookup ("row" : Str) = some (V.int k.row) := by kernel_rfl
theorem mc_put_row (k : Mc) (x : Int) : putF ("row" : Str) (V.int x) (mcF k) = mcF { k with row := x } := by kernel_rfl
theorem mc_spent (k : Mc) : (mcF k).lookup ("spent" : Str) = some (V.int k.spent) := by kernel_rfl
theorem mc_put_spent (k : Mc) (x : Int) : putF ("spent" : Str) (V.int x) (mcF k) = mcF { k with spent := x } := by kernel_rfl
theorem mc_no_ended (k : Mc) : (mcF k).lookup ("ended" : Str) = none := by kernel_rfl
theorem mc_no_wanted (k : Mc) : (mcF k).lookup ("wanted" : Str) = none := by kernel_rfl
theorem mc_no_step (k : Mc) : (mcF k).lookup ("step" : Str) = none := by kernel_rfl
theorem mc_no_use_word (k : Mc) : (mcF k).lookup ("use_word" : Str) = none := by kernel_rfl
theorem mc_no_finish (k : Mc) : (mcF k).lookup ("finish" : Str) = none := by kernel_rfl
theorem mc_no_reckoned (k : Mc) : (mcF k).lookup ("reckoned" : Str) = none := by kernel_rfl
theorem mc_len (k : Mc) : (mcF k).length < 1000 := by show 5 < 1000; decide
theorem mc_made (program : Addr) (cells : Addr) (marks : Addr) (row : Int) (spent : Int) : putF ("spent" : Str) (V.int spent) (putF ("row" : Str) (V.int row) (putF ("marks" : Str) (V.ref marks) (putF ("cells" : Str) (V.ref cells) (putF ("program" : Str) (V.ref program) (([] : List (Str × V))))))) = mcF ⟨program, cells, marks, row, spent⟩ := by kernel_rfl
structure Fl where
  machine : Addr
  device : Addr
  words : Addr
  asks : Addr
  beats : Int
def flF (k : Fl) : List (Str × V) := [("machine", .ref k.machine), ("device", .ref k.device), ("words", .ref k.words), ("asks", .ref k.asks), ("beats", .int k.beats)]
abbrev cFloor (K : PySem.W.Frag) : Addr := He.ga K "Floor"
theorem fl_machine (k : Fl) : (flF k).lookup ("machine" : Str) = some (V.ref k.machine) := by kernel_rfl
theorem fl_put_machine (k : Fl) (x : Addr) : putF ("machine" : Str) (V.ref x) (flF k) = flF { k with machine := x } := by kernel_rfl
theorem fl_device (k : Fl) : (flF k).lookup ("device" : Str) = some (V.ref k.device) := by kernel_rfl
theorem fl_put_device (k : Fl) (x : Addr) : putF ("device" : Str) (V.ref x) (flF k) = flF { k with device := x } := by kernel_rfl
theorem fl_words (k : Fl) : (flF k).lookup ("words" : Str) = some (V.ref k.words) := by kernel_rfl
theorem fl_put_words (k : Fl) (x : Addr) : putF ("words" : Str) (V.ref x) (flF k) = flF { k with words := x } := by kernel_rfl
theorem fl_asks (k : Fl) : (flF k).lookup ("asks" : Str) = some (V.ref k.asks) := by kernel_rfl
theorem fl_put_asks (k : Fl) (x : Addr) : putF ("asks" : Str) (V.ref x) (flF k) = flF { k with asks := x } := by kernel_rfl
theorem fl_beats (k : Fl) : (flF k).lookup ("beats" : Str) = some (V.int k.beats) := by kernel_rfl
theorem fl_put_beats (k : Fl) (x : Int) : putF ("beats" : Str) (V.int x) (flF k) = flF { k with beats := x } := by kernel_rfl
theorem fl_no_pass_beat (k : Fl) : (flF k).lookup ("pass_beat" : Str) = none := by kernel_rfl
theorem fl_no_seen (k : Fl) : (flF k).lookup ("seen" : Str) = none := by kernel_rfl
theorem fl_len (k : Fl) : (flF k).length < 1000 := by show 5 < 1000; decide
theorem fl_made (machine : Addr) (device : Addr) (words : Addr) (asks : Addr) (beats : Int) : putF ("beats" : Str) (V.int beats) (putF ("asks" : Str) (V.ref asks) (putF ("words" : Str) (V.ref words) (putF ("device" : Str) (V.ref device) (putF ("machine" : Str) (V.ref machine) (([] : List (Str × V))))))) = flF ⟨machine, device, words, asks, beats⟩ := by kernel_rfl
structure Hl where
  floor : Addr
def hlF (k : Hl) : List (Str × V) := [("floor", .ref k.floor)]
abbrev cHall (K : PySem.W.Frag) : Addr := He.ga K "Hall"
theorem hl_floor (k : Hl) : (hlF k).lookup ("floor" : Str) = some (V.ref k.floor) := by kernel_rfl
theorem hl_put_floor (k : Hl) (x : Addr) : putF ("floor" : Str) (V.ref x) (hlF k) = hlF { k with floor := x } := by kernel_rfl
theorem hl_no_beat (k : Hl) : (hlF k).lookup ("beat" : Str) = none := by kernel_rfl
theorem hl_no_shown (k : Hl) : (hlF k).lookup ("shown" : Str) = none := by kernel_rfl
theorem hl_len (k : Hl) : (hlF k).length < 1000 := by show 1 < 1000; decide
theorem hl_made (floor : Addr) : putF ("floor" : Str) (V.ref floor) (([] : List (Str × V))) = hlF ⟨floor⟩ := by kernel_rfl
structure Wa where
  floor : Addr
  dones : Addr
  on_behind : Addr
  pairs : Addr
  first_get : Option Addr
  goings : Addr
def waF (k : Wa) : List (Str × V) := [("floor", .ref k.floor), ("dones", .ref k.dones), ("on_behind", .ref k.on_behind), ("pairs", .ref k.pairs), ("first_get", oA k.first_get), ("goings", .ref k.goings)]
abbrev cWatch (K : PySem.W.Frag) : Addr := He.ga K "Watch"
theorem wa_floor (k : Wa) : (waF k).lookup ("floor" : Str) = some (V.ref k.floor) := by kernel_rfl
theorem wa_put_floor (k : Wa) (x : Addr) : putF ("floor" : Str) (V.ref x) (waF k) = waF { k with floor := x } := by kernel_rfl
theorem wa_dones (k : Wa) : (waF k).lookup ("dones" : Str) = some (V.ref k.dones) := by kernel_rfl
theorem wa_put_dones (k : Wa) (x : Addr) : putF ("dones" : Str) (V.ref x) (waF k) = waF { k with dones := x } := by kernel_rfl
theorem wa_on_behind (k : Wa) : (waF k).lookup ("on_behind" : Str) = some (V.ref k.on_behind) := by kernel_rfl
theorem wa_put_on_behind (k : Wa) (x : Addr) : putF ("on_behind" : Str) (V.ref x) (waF k) = waF { k with on_behind := x } := by kernel_rfl
theorem wa_pairs (k : Wa) : (waF k).lookup ("pairs" : Str) = some (V.ref k.pairs) := by kernel_rfl
theorem wa_put_pairs (k : Wa) (x : Addr) : putF ("pairs" : Str) (V.ref x) (waF k) = waF { k with pairs := x } := by kernel_rfl
theorem wa_first_get (k : Wa) : (waF k).lookup ("first_get" : Str) = some (oA k.first_get) := by kernel_rfl
theorem wa_put_first_get (k : Wa) (x : Option Addr) : putF ("first_get" : Str) (oA x) (waF k) = waF { k with first_get := x } := by kernel_rfl
theorem wa_goings (k : Wa) : (waF k).lookup ("goings" : Str) = some (V.ref k.goings) := by kernel_rfl
theorem wa_put_goings (k : Wa) (x : Addr) : putF ("goings" : Str) (V.ref x) (waF k) = waF { k with goings := x } := by kernel_rfl
theorem wa_no_run (k : Wa) : (waF k).lookup ("run" : Str) = none := by kernel_rfl
theorem wa_no_run_till (k : Wa) : (waF k).lookup ("run_till" : Str) = none := by kernel_rfl
theorem wa_no_step (k : Wa) : (waF k).lookup ("step" : Str) = none := by kernel_rfl
theorem wa_no_note_get (k : Wa) : (waF k).lookup ("note_get" : Str) = none := by kernel_rfl
theorem wa_len (k : Wa) : (waF k).length < 1000 := by show 6 < 1000; decide
theorem wa_put_first_getS (k : Wa) (x : Addr) : putF ("first_get" : Str) (V.ref x) (waF k) = waF { k with first_get := some x } := by kernel_rfl
theorem wa_made (floor : Addr) (dones : Addr) (on_behind : Addr) (pairs : Addr) (first_get : Option Addr) (goings : Addr) : putF ("goings" : Str) (V.ref goings) (putF ("first_get" : Str) (oA first_get) (putF ("pairs" : Str) (V.ref pairs) (putF ("on_behind" : Str) (V.ref on_behind) (putF ("dones" : Str) (V.ref dones) (putF ("floor" : Str) (V.ref floor) (([] : List (Str × V)))))))) = waF ⟨floor, dones, on_behind, pairs, first_get, goings⟩ := by kernel_rfl
end SB

set_option Elab.async false
set_option linter.all false
set_option maxRecDepth 100000
set_option maxHeartbeats 2000000
namespace SB
open PySem L2
section
variable {K : PySem.W.Frag} {σ : St} {H H1 : Hp} {Q : VK} {a C dx : Addr} {fs : List (Str × V)} {f : Str} {v y : V} {i : Nat} {ta tv : TE} {D : Ends}
theorem sf (h2 : H a = some (.ins C dx fs)) (h3 : Cls K C) (h4 : NoAttr K C f) (h5 : fs.lookup f = some v) (q : Q v H) (h1 : σ[i]? = some (some (.ref a)) := by rfl) : tFld K (tVar i) f σ H Q := ⟨_, h1, a, C, dx, fs, v, rfl, h2, h3, h4, h5, q⟩
theorem ff (h2 : H a = some (.ins C dx fs)) (h3 : Cls K C) (h4 : NoAttr K C f) (h5 : fs.lookup f = some v) (q : Q v H) :
    ∃ a' C' dx' fs' v', V.ref a = .ref a' ∧ H a' = some (.ins C' dx' fs') ∧ Cls K C' ∧ NoAttr K C' f ∧ fs'.lookup f = some v' ∧ Q v' H := ⟨a, C, dx, fs, v, rfl, h2, h3, h4, h5, q⟩
theorem stf (h2 : H a = some (.ins C dx fs)) (h3 : Cls K C) (h4 : NoAttr K C f) (h5 : fs.length < 1000) {fs' : List (Str × V)} (e : putF f y fs = fs') (q : D.nx σ (upd H a (.ins C dx fs'))) (h1 : σ[i]? = some (some (.ref a)) := by rfl) :
    tVar i σ H fun x H2 => ∃ a C dx fs, x = .ref a ∧ H2 a = some (.ins C dx fs) ∧ Cls K C ∧ NoAttr K C f ∧ fs.length < 1000 ∧ D.nx σ (upd H2 a (.ins C dx (putF f y fs))) := ⟨_, h1, a, C, dx, fs, rfl, h2, h3, h4, h5, by rw [e]; exact q⟩
theorem augf {z n : Int} (h2 : H a = some (.ins C dx fs)) (h3 : Cls K C) (h4 : NoAttr K C f) (h5 : fs.lookup f = some (.int z)) (h6 : fs.length < 1000) {fs' : List (Str × V)} (e : putF f (.int (z + n)) fs = fs')
    (q : D.nx σ (upd H a (.ins C dx fs'))) (h1 : σ[i]? = some (some (.ref a)) := by rfl) : sFldAug K (tVar i) (tC (.int n)) rAdd f D σ H := ⟨_, h1, a, C, dx, fs, _, rfl, h2, h3, h4, h5, _, _, rfl, rfl, dx, fs, h2, h6, by rw [e]; exact q⟩
end
theorem yes {σ : L2.St} {H : Hp} {A B : Hp → Prop} (h : A H) : tYes σ H fun b H3 => if b = true then A H3 else B H3 := by
  show if true = true then A H else B H
  rw [if_pos rfl]
  exact h
theorem lt1000 {n : Nat} (h : Nat.blt n 1000 = true) : n < 1000 := Nat.le_of_ble_eq_true h
theorem at_int {ws : List Int} {z : Int} (h0 : 0 ≤ z) (h1 : z < ws.length) : atI (ws.map V.int) z = some (.int (ws.getD z.toNat 0)) := by
  unfold atI ixN
  rw [if_pos h0, List.length_map, if_pos h1]
  have : z.toNat < ws.length := by omega
  simp [List.getD, List.getElem?_eq_getElem this]
theorem ix_ok {n : Nat} {z : Int} (h0 : 0 ≤ z) (h1 : z < n) : ixN n z = some z.toNat := by
  unfold ixN
  rw [if_pos h0, if_pos h1]
theorem set_int {ws : List Int} {j : Nat} {x : Int} : (ws.map V.int).set j (.int x) = (ws.set j x).map V.int := by rw [List.map_set]
def Kept (as : List Addr) (H H' : Hp) : Prop := ∀ b o, H b = some o → b ∉ as → H' b = some o
theorem Kept.refl (as : List Addr) (H : Hp) : Kept as H H := fun _ _ h _ => h
theorem Kept.trans {as : List Addr} {H H1 H2 : Hp} (a : Kept as H H1) (b : Kept as H1 H2) : Kept as H H2 := fun c o h n => b c o (a c o h n) n
theorem Kept.mono {as bs : List Addr} {H H1 : Hp} (a : Kept as H H1) (h : ∀ x ∈ as, x ∈ bs) : Kept bs H H1 := fun c o e n => a c o e fun m => n (h c m)
theorem Kept.put {as : List Addr} {H H1 : Hp} {p : Addr} {o : HO} (a : Kept as H H1) (h : p ∈ as) : Kept as H (L2.upd H1 p o) := fun c u e n => by
  have hc : c ≠ p := fun z => n (by rw [z]; exact h)
  rw [upd_ne hc]
  exact a c u e n
theorem Kept.new {as : List Addr} {H H1 : Hp} {p : Addr} {o : HO} (a : Kept as H H1) (h : H p = none) : Kept as H (L2.upd H1 p o) := fun c u e n => by rw [upd_ne (ne_of_none e h)]; exact a c u e n
theorem Kept.same {as : List Addr} {H H1 : Hp} (s : Same H H1) : Kept as H H1 := fun c u e _ => s c u e
theorem Kept.toSame {H H1 : Hp} (a : Kept [] H H1) : Same H H1 := fun c u e => a c u e (by simp)
theorem Same.new {H H1 : Hp} {p : Addr} {o : HO} (a : Same H H1) (h : H p = none) : Same H (L2.upd H1 p o) := fun c u e => by rw [upd_ne (ne_of_none e h)]; exact a c u e
theorem Kept.free {as : List Addr} {H H' : Hp} (e : Kept as H H') {p : Addr} (h : H' p = none) (n : p ∉ as) : H p = none := by
  cases q : H p with
  | none => rfl
  | some o => rw [e p o q n] at h; cases h
theorem Same.tup {K : PySem.W.Frag} {H H' : Hp} {a : Addr} {xs : List V} (e : Same H H') (h : SqT K H a xs) : SqT K H' a xs := by
  rcases h with (h | ⟨o, h⟩) | h
  · exact .inl (.inl (e _ _ h))
  · exact .inl (.inr ⟨o, e _ _ h⟩)
  · exact .inr h
end SB

set_option Elab.async false
set_option linter.all false
set_option maxRecDepth 100000
set_option maxHeartbeats 2000000
namespace SB
open PySem L2
def Wk.start (k : Wk) : Wk := if k.on = true then k else { k with on := true, laid := 0 }
def Wk.held (k : Wk) (ms : List Bool) : Bool := match k.mark with
  | none => false
  | some m => if ms.getD m.toNat false = true then (k.hand.isNone && decide (k.laid % k.block = 0)) else false
def mayK (g : Str) (wanted took : Bool) : Bool := if g = "all" then true else if wanted = false then true else if g = "turn" then !took else false
def Wk.may (k : Wk) (wanted took : Bool) : Bool := if k.greed = "all" then true else if wanted = false then true else if k.greed = "turn" then !took else false
def Wk.move (k : Wk) (ws : List Int) : Wk × List Int × (Str × Int × Int) := match k.hand with
  | none => ({ k with hand := some (ws.getD ((k.begin + k.laid) % ws.length).toNat 0) }, ws, ("get", (k.begin + k.laid) % ws.length, ws.getD ((k.begin + k.laid) % ws.length).toNat 0))
  | some x => ({ k with hand := none, laid := k.laid + 1, on := decide (k.laid + 1 < k.many) }, ws.set ((k.goal + k.laid) % ws.length).toNat x, ("put", (k.goal + k.laid) % ws.length, x))
def Wk.wo (k : Wk) (g : Option Addr) : Wo := ⟨k.begin, k.goal, k.many, k.block, k.greed, k.mark, k.follow, g⟩
theorem mod_rg {x : Int} {n : Nat} (h : 0 < n) : 0 ≤ x % (n : Int) ∧ x % (n : Int) < n := ⟨Int.emod_nonneg _ (by omega), Int.emod_lt_of_pos _ (by omega)⟩
section
variable {P : Program} {w : World} {K : PySem.W.Frag} {mg : Str → Option Value} {base : Heap}
def sp_Going_init (K : PySem.W.Frag) : Sp := fun vs H Q _ => ∃ (a dx : Addr) (n : Int), vs = [.ref a, .int n] ∧ H a = some (.ins (cGoing K) dx []) ∧
  ∀ H' p, H p = none → H' p = some (.lst []) → H' a = some (.ins (cGoing K) dx (ggF ⟨n, none, p⟩)) → Kept [a] H H' → Q .non H'
theorem ok_Going_init (T : T w K mg) : FnR P w K mg base CX0 1 (He.ma K (He.ga K "Going") "__init__") (sp_Going_init K) := by
  obtain ⟨fd, F⟩ := T.f_Going_init
  refine F.r sc_Going_init (fun _ _ _ _ _ _ us hl => match us, hl with | [_, _], _ => rfl) (fun vs H Q E h => ?_) (fun cdv A outer s H vs Q E hr h => ?_)
  · obtain ⟨_, _, _, rfl, _⟩ := h
    rfl
  · obtain ⟨a, dx, n, rfl, hself, k⟩ := h
    refine ⟨_, (pss_cons (ps_fld (pv 0) (pv 1) rfl)
      (pss_cons (ps_fld (pv 0) pe_non rfl)
      (pss_one (ps_fld (pv 0) (pe_lst pa_nil) rfl)))), ?_⟩
    refine ⟨_, rfl, stf hself T.cl_Going T.n_Going_number (by decide) rfl ?_⟩
    refine stf upd_same T.cl_Going T.n_Going_hand (lt1000 (by kernel_rfl)) rfl ?_
    rw [upd_upd]
    refine ⟨by show 0 ≤ sizeLine; decide, fun p hp => ?_⟩
    have pa : p ≠ a := fun z => by rw [z, upd_same] at hp; cases hp
    rw [upd_ne pa] at hp
    refine stf (by rw [upd_ne (Ne.symm pa)]; exact upd_same) T.cl_Going T.n_Going_puts (lt1000 (by kernel_rfl)) (gg_made n none p) ?_
    exact k _ p hp (by rw [upd_ne pa]; exact upd_same) upd_same ((((Kept.refl [a] H).put (by simp)).new hp).put (by simp))
def sp_Work_init (K : PySem.W.Frag) : Sp := fun vs H Q _ => ∃ (a dx : Addr) (b g m c : Int) (gr : Str) (mk fo : Option Int), vs = [.ref a, .int b, .int g, .int m, .int c, .str gr, oV mk, oV fo] ∧ H a = some (.ins (cWork K) dx []) ∧
  ∀ H', H' a = some (.ins (cWork K) dx (woF ⟨b, g, m, c, gr, mk, fo, none⟩)) → Kept [a] H H' → Q .non H'
theorem ok_Work_init (T : T w K mg) : FnR P w K mg base CX0 1 (He.ma K (He.ga K "Work") "__init__") (sp_Work_init K) := by
  obtain ⟨fd, F⟩ := T.f_Work_init
  refine F.r sc_Work_init (fun _ _ _ _ _ _ us hl => match us, hl with | [_, _, _, _, _, _, _, _], _ => rfl) (fun vs H Q E h => ?_) (fun cdv A outer s H vs Q E hr h => ?_)
  · obtain ⟨_, _, _, _, _, _, _, _, _, rfl, _⟩ := h
    rfl
  · obtain ⟨a, dx, b, g, m, c, gr, mk, fo, rfl, hself, k⟩ := h
    refine ⟨_, (pss_cons (ps_fld (pv 0) (pv 1) rfl)
      (pss_cons (ps_fld (pv 0) (pv 2) rfl)
      (pss_cons (ps_fld (pv 0) (pv 3) rfl)
      (pss_cons (ps_fld (pv 0) (pv 4) rfl)
      (pss_cons (ps_fld (pv 0) (pv 5) rfl)
      (pss_cons (ps_fld (pv 0) (pv 6) rfl)
      (pss_cons (ps_fld (pv 0) (pv 7) rfl)
      (pss_one (ps_fld (pv 0) pe_non rfl))))))))), ?_⟩
    refine ⟨_, rfl, stf hself T.cl_Work T.n_Work_begin (by decide) rfl ?_⟩
    refine ⟨_, rfl, stf upd_same T.cl_Work T.n_Work_goal (lt1000 (by kernel_rfl)) rfl ?_⟩
    refine ⟨_, rfl, stf upd_same T.cl_Work T.n_Work_many (lt1000 (by kernel_rfl)) rfl ?_⟩
    refine ⟨_, rfl, stf upd_same T.cl_Work T.n_Work_block (lt1000 (by kernel_rfl)) rfl ?_⟩
    refine ⟨_, rfl, stf upd_same T.cl_Work T.n_Work_greed (lt1000 (by kernel_rfl)) rfl ?_⟩
    refine ⟨_, rfl, stf upd_same T.cl_Work T.n_Work_mark (lt1000 (by kernel_rfl)) rfl ?_⟩
    refine ⟨_, rfl, stf upd_same T.cl_Work T.n_Work_follow (lt1000 (by kernel_rfl)) rfl ?_⟩
    refine stf upd_same T.cl_Work T.n_Work_going (lt1000 (by kernel_rfl)) (wo_made b g m c gr mk fo none) ?_
    exact k _ upd_same (((((((((Kept.refl [a] H).put (by simp)).put (by simp)).put (by simp)).put (by simp)).put (by simp)).put (by simp)).put (by simp)).put (by simp))
def sp_Work_held_off (K : PySem.W.Frag) : Sp := fun vs H Q _ => ∃ (a dx m g dg pl : Addr) (k : Wk) (n : Int) (xs : List V) (ms : List Bool), vs = [.ref a, .ref m] ∧ H a = some (.ins (cWork K) dx (woF (k.wo (some g)))) ∧ H g = some (.ins (cGoing K) dg (ggF ⟨n, k.hand, pl⟩)) ∧ H pl = some (.lst xs) ∧ (xs.length : Int) = k.laid ∧ H m = some (.lst (ms.map V.bl)) ∧ 0 < k.block ∧ (∀ i, k.mark = some i → 0 ≤ i ∧ i < ms.length) ∧ Q (.bl (k.held ms)) H
theorem at_bl {ms : List Bool} {z : Int} (h0 : 0 ≤ z) (h1 : z < ms.length) : atI (ms.map V.bl) z = some (.bl (ms.getD z.toNat false)) := by
  unfold atI ixN
  rw [if_pos h0, List.length_map, if_pos h1]
  have : z.toNat < ms.length := by omega
  simp [List.getD, List.getElem?_eq_getElem this]
theorem dec_intv {x y : Int} : decide (V.int x = V.int y) = decide (x = y) := by
  by_cases z : x = y
  · rw [decide_eq_true z, decide_eq_true (by rw [z])]
  · rw [decide_eq_false z, decide_eq_false (fun y => z (V.int.inj y))]
theorem ok_Work_held_off (T : T w K mg) : FnR P w K mg base CX0 1 (He.ma K (He.ga K "Work") "held_off") (sp_Work_held_off K) := by
  obtain ⟨fd, F⟩ := T.f_Work_held_off
  refine F.r sc_Work_held_off (fun _ _ _ _ _ _ us hl => match us, hl with | [_, _], _ => rfl) (fun vs H Q E h => ?_) (fun cdv A outer s H vs Q E hr h => ?_)
  · obtain ⟨_, _, _, _, _, _, _, _, _, _, rfl, _⟩ := h
    rfl
  · obtain ⟨a, dx, m, g, dg, pl, k, n, xs, ms, rfl, hself, hg, hpl, hlen, hm, hb, hk, q⟩ := h
    refine ⟨_, (pss_cons (ps_if (PW.pt (pw_or (pt_cmp (pc_isN (pe_fld (pv 0) rfl))) (pw_or1 (pt_not (pt_val (pe_ix ix_list (pv 1) (pe_fld (pv 0) rfl) (fun _ _ => rfl)))))))
      (pss_one (ps_ret pe_bl))
      pss_nil)
      (pss_one (ps_ret (pe_and (pe_cmp (pc_isN (pe_fld (pe_fld (pv 0) rfl) rfl))) (pe_one (pe_cmpR op_eq (pe_op op_mod (pe_callB call_len_seq rfl T.u_len PySem.boot_len (pa_cons (pe_fld (pe_fld (pv 0) rfl) rfl) pa_nil)) (pe_fld (pv 0) rfl)) pe_int (nomark _))))))), ?_⟩
    refine ⟨_, rfl, _, _, _, _, _, rfl, hself, T.cl_Work, T.n_Work_mark, (wo_mark _), ?_⟩
    refine ⟨_, rfl, ?_⟩
    unfold Wk.held at q
    show if _ = true then _ else _
    cases e : k.mark with
    | none =>
      rw [e] at q
      have e' : (k.wo (some g)).mark = none := e
      rw [e']
      exact iteT (iteT q)
    | some i =>
      rw [e] at q
      have e' : (k.wo (some g)).mark = some i := e
      obtain ⟨h0, h1⟩ := hk i e
      rw [e']
      refine iteF ?_
      refine ⟨_, rfl, ?_⟩
      refine ⟨_, rfl, _, _, _, _, _, rfl, hself, T.cl_Work, T.n_Work_mark, (wo_mark _), ?_⟩
      refine ⟨_, _, _, _, rfl, by rw [e']; rfl, SqL.of hm, at_bl h0 h1, ?_⟩
      refine ⟨_, rfl, ?_⟩
      cases c : ms.getD i.toNat false with
      | false =>
        have q2 : Q (.bl false) H := by
          have q3 : Q (.bl (if ms.getD i.toNat false = true then (k.hand.isNone && decide (k.laid % k.block = 0)) else false)) H := q
          rw [c] at q3
          exact q3
        exact iteT q2
      | true =>
        have q2 : Q (.bl (k.hand.isNone && decide (k.laid % k.block = 0))) H := by
          have q3 : Q (.bl (if ms.getD i.toNat false = true then (k.hand.isNone && decide (k.laid % k.block = 0)) else false)) H := q
          rw [c] at q3
          exact q3
        refine iteF ?_
        refine ⟨_, rfl, _, _, _, _, _, rfl, hself, T.cl_Work, T.n_Work_going, (wo_going _), ?_⟩
        refine ⟨_, _, _, _, _, rfl, hg, T.cl_Going, T.n_Going_hand, (gg_hand _), ?_⟩
        refine ⟨_, rfl, ?_⟩
        show if _ = true then _ else _
        cases eh : k.hand with
        | none =>
          rw [eh] at q2
          refine iteT ?_
          refine ⟨_, rfl, _, _, _, _, _, rfl, hself, T.cl_Work, T.n_Work_going, (wo_going _), ?_⟩
          refine ⟨_, _, _, _, _, rfl, hg, T.cl_Going, T.n_Going_puts, (gg_puts _), ?_⟩
          refine ⟨_, _, rfl, .inl (SqL.of hpl), ?_⟩
          refine ⟨_, rfl, _, _, _, _, _, rfl, hself, T.cl_Work, T.n_Work_block, (wo_block _), ?_⟩
          refine ⟨_, _, rfl, rfl, hb, ?_⟩
          refine ⟨rfl, ?_⟩
          show Q (.bl (decide (V.int ((xs.length : Int) % k.block) = V.int 0))) H
          rw [dec_intv, hlen]
          exact q2
        | some x =>
          rw [eh] at q2
          exact iteF q2
def sp_Work_may_take (K : PySem.W.Frag) : Sp := fun vs H Q _ => ∃ (a dx : Addr) (k : Wo) (wanted took : Bool), vs = [.ref a, .bl wanted, .bl took] ∧ H a = some (.ins (cWork K) dx (woF k)) ∧ Q (.bl ((mayK k.greed) wanted took)) H
theorem dec_str {x y : Str} : decide (V.str x = V.str y) = decide (x = y) := by
  by_cases z : x = y
  · rw [decide_eq_true z, decide_eq_true (by rw [z])]
  · rw [decide_eq_false z, decide_eq_false (fun y => z (V.str.inj y))]
theorem ok_Work_may_take (T : T w K mg) : FnR P w K mg base CX0 1 (He.ma K (He.ga K "Work") "may_take") (sp_Work_may_take K) := by
  obtain ⟨fd, F⟩ := T.f_Work_may_take
  refine F.r sc_Work_may_take (fun _ _ _ _ _ _ us hl => match us, hl with | [_, _, _], _ => rfl) (fun vs H Q E h => ?_) (fun cdv A outer s H vs Q E hr h => ?_)
  · obtain ⟨_, _, _, _, _, rfl, _⟩ := h
    rfl
  · obtain ⟨a, dx, k, wanted, took, rfl, hself, q⟩ := h
    refine ⟨_, (pss_cons (ps_if (PW.pt (pw_or (pt_cmpR op_eq (pe_fld (pv 0) rfl) pe_str (nomark _)) (pw_or1 (pt_not (pt_val (pv 1))))))
      (pss_one (ps_ret pe_bl))
      pss_nil)
      (pss_one (ps_ret (pe_and (pe_cmpR op_eq (pe_fld (pv 0) rfl) pe_str (nomark _)) (pe_one (pe_not (pv 2))))))), ?_⟩
    refine ⟨_, rfl, _, _, _, _, _, rfl, hself, T.cl_Work, T.n_Work_greed, (wo_greed _), ?_⟩
    refine ⟨rfl, ?_⟩
    refine ⟨_, rfl, ?_⟩
    rw [dec_str]
    unfold mayK at q
    by_cases g : k.greed = "all"
    · rw [if_pos g] at q
      rw [decide_eq_true g]
      exact iteT (iteT q)
    · rw [if_neg g] at q
      rw [decide_eq_false g]
      refine iteF ?_
      refine ⟨_, rfl, ?_⟩
      refine ⟨_, rfl, ?_⟩
      cases wanted with
      | false => exact iteT q
      | true =>
        rw [if_neg (by decide)] at q
        refine iteF ?_
        refine ⟨_, rfl, _, _, _, _, _, rfl, hself, T.cl_Work, T.n_Work_greed, (wo_greed _), ?_⟩
        refine ⟨rfl, ?_⟩
        refine ⟨_, rfl, ?_⟩
        rw [dec_str]
        by_cases g2 : k.greed = "turn"
        · rw [if_pos g2] at q
          rw [decide_eq_true g2]
          refine iteT ?_
          refine ⟨_, rfl, ?_⟩
          exact ⟨_, rfl, q⟩
        · rw [if_neg g2] at q
          rw [decide_eq_false g2]
          exact iteF q

def FetchPost (K : PySem.W.Frag) (H H' : Hp) (p g dg pl : Addr) (n : Int) (k : Wk) (ws : List Int) : Prop :=
  H p = none ∧ H' p = some (.tup [.str "get", .int ((k.begin + k.laid) % ws.length), .int (ws.getD ((k.begin + k.laid) % ws.length).toNat 0)]) ∧ H' g = some (.ins (cGoing K) dg (ggF ⟨n, some (ws.getD ((k.begin + k.laid) % ws.length).toNat 0), pl⟩)) ∧ Kept [g] H H'
def sp_Work_fetch (K : PySem.W.Frag) : Sp := fun vs H Q _ => ∃ (a dx g dg pl l : Addr) (k : Wk) (n : Int) (xs : List V) (ws : List Int), vs = [.ref a, .ref l] ∧ H a = some (.ins (cWork K) dx (woF (k.wo (some g)))) ∧ H g = some (.ins (cGoing K) dg (ggF ⟨n, k.hand, pl⟩)) ∧ H pl = some (.lst xs) ∧ (xs.length : Int) = k.laid ∧
  H l = some (.lst (ws.map V.int)) ∧ 0 < ws.length ∧ ∀ H' p, FetchPost K H H' p g dg pl n k ws → Q (.ref p) H'
theorem ok_Work_fetch (T : T w K mg) : FnR P w K mg base CX0 1 (He.ma K (He.ga K "Work") "fetch") (sp_Work_fetch K) := by
  obtain ⟨fd, F⟩ := T.f_Work_fetch
  refine F.r sc_Work_fetch (fun _ _ _ _ _ _ us hl => match us, hl with | [_, _], _ => rfl) (fun vs H Q E h => ?_) (fun cdv A outer s H vs Q E hr h => ?_)
  · obtain ⟨_, _, _, _, _, _, _, _, _, _, rfl, _⟩ := h
    rfl
  · obtain ⟨a, dx, g, dg, pl, l, k, n, xs, ws, rfl, hself, hg, hpl, hlen, hl, hw, q⟩ := h
    obtain ⟨m0, m1⟩ := mod_rg (x := k.begin + k.laid) hw
    refine ⟨_, (pss_cons (ps_set (i := 2) sc_Work_fetch.nd rfl (Or.inl rfl) (pe_fld (pv 0) rfl))
      (pss_cons (ps_set (i := 3) sc_Work_fetch.nd rfl (Or.inl rfl) (pe_op op_mod (pe_op op_add (pe_fld (pv 0) rfl) (pe_callB call_len_seq rfl T.u_len PySem.boot_len (pa_cons (pe_fld (pv 2) rfl) pa_nil))) (pe_callB call_len_seq rfl T.u_len PySem.boot_len (pa_cons (pv 1) pa_nil))))
      (pss_cons (ps_fld (pv 2) (pe_ix ix_list (pv 1) (pv 3) (fun _ _ => rfl)) rfl)
      (pss_one (ps_ret (pe_tup (pa_cons pe_str (pa_cons (pv 3) (pa_cons (pe_fld (pv 2) rfl) pa_nil))))))))), ?_⟩
    refine ⟨_, rfl, _, _, _, _, _, rfl, hself, T.cl_Work, T.n_Work_going, wo_going _, ?_⟩ -- going = self.going
    refine ⟨_, rfl, _, _, _, _, _, rfl, hself, T.cl_Work, T.n_Work_begin, wo_begin _, ?_⟩
    refine ⟨_, rfl, _, _, _, _, _, rfl, hg, T.cl_Going, T.n_Going_puts, gg_puts _, ?_⟩
    refine ⟨_, _, rfl, .inl (SqL.of hpl), ?_⟩ -- len
    refine ⟨_, _, rfl, rfl, ?_⟩ -- self.begin + len
    refine ⟨_, rfl, ?_⟩ -- words
    refine ⟨_, _, rfl, .inl (SqL.of hl), ?_⟩ -- len
    rw [List.length_map]
    refine ⟨_, _, rfl, rfl, (by omega), ?_⟩ -- %
    rw [hlen]
    refine ⟨_, rfl, ?_⟩ -- words
    refine ⟨_, rfl, ?_⟩ -- address
    refine ⟨_, _, _, _, rfl, rfl, SqL.of hl, at_int m0 m1, ?_⟩ -- words[address]
    refine stf hg T.cl_Going T.n_Going_hand (gg_len _) (gg_put_handS _ _) ?_ -- going.hand = words[address]
    refine ⟨_, rfl, ?_⟩ -- address
    refine ⟨_, rfl, _, _, _, _, _, rfl, upd_same, T.cl_Going, T.n_Going_hand, gg_hand _, ?_⟩
    refine ⟨by show 3 ≤ sizeLine; decide, fun p hp => ?_⟩ -- ('get', address, self.hand)
    have pg : p ≠ g := fun z => by rw [z, upd_same] at hp; cases hp
    rw [upd_ne pg] at hp
    exact q _ p ⟨hp, upd_same, by rw [upd_ne (Ne.symm pg)]; exact upd_same, ((Kept.refl _ H).put (by simp)).new hp⟩
def LayPost (K : PySem.W.Frag) (H H' : Hp) (p t a dx g dg pl l : Addr) (n when : Int) (k : Wk) (xs : List V) (ws : List Int) (x : Int) : Prop :=
  H p = none ∧ H t = none ∧ H' p = some (.tup [.str "put", .int ((k.goal + k.laid) % ws.length), .int x]) ∧ H' t = some (.tup [.int when, .int ((k.goal + k.laid) % ws.length)]) ∧ H' pl = some (.lst (xs ++ [.ref t])) ∧ H' g = some (.ins (cGoing K) dg (ggF ⟨n, none, pl⟩)) ∧
  H' a = some (.ins (cWork K) dx (woF (k.wo (if k.laid + 1 < k.many then some g else none)))) ∧ H' l = some (.lst ((ws.set ((k.goal + k.laid) % ws.length).toNat x).map V.int)) ∧ Kept [a, g, pl, l] H H'
def sp_Work_lay (K : PySem.W.Frag) : Sp := fun vs H Q _ => ∃ (a dx g dg pl l : Addr) (k : Wk) (n when x : Int) (xs : List V) (ws : List Int), vs = [.ref a, .int when, .ref l] ∧ H a = some (.ins (cWork K) dx (woF (k.wo (some g)))) ∧ H g = some (.ins (cGoing K) dg (ggF ⟨n, k.hand, pl⟩)) ∧ H pl = some (.lst xs) ∧ (xs.length : Int) = k.laid ∧
  H l = some (.lst (ws.map V.int)) ∧ 0 < ws.length ∧ a ≠ g ∧ l ≠ pl ∧ k.hand = some x ∧ k.laid < k.many ∧ k.laid < 1000 ∧ ∀ H' p t, LayPost K H H' p t a dx g dg pl l n when k xs ws x → Q (.ref p) H'
theorem ok_Work_lay (T : T w K mg) : FnR P w K mg base CX0 1 (He.ma K (He.ga K "Work") "lay") (sp_Work_lay K) := by
  obtain ⟨fd, F⟩ := T.f_Work_lay
  refine F.r sc_Work_lay (fun _ _ _ _ _ _ us hl => match us, hl with | [_, _, _], _ => rfl) (fun vs H Q E h => ?_) (fun cdv A outer s H vs Q E hr h => ?_)
  · obtain ⟨_, _, _, _, _, _, _, _, _, _, _, _, rfl, _⟩ := h
    rfl
  · obtain ⟨a, dx, g, dg, pl, l, k, n, when, x, xs, ws, rfl, hself, hg, hpl, hlen, hl, hw, ag, lpl, hx, hlm, hl3, q⟩ := h
    obtain ⟨m0, m1⟩ := mod_rg (x := k.goal + k.laid) hw
    have al : a ≠ l := ne_of hself hl (by intro z; cases z)
    have apl : a ≠ pl := ne_of hself hpl (by intro z; cases z)
    have gl : g ≠ l := ne_of hg hl (by intro z; cases z)
    have gpl : g ≠ pl := ne_of hg hpl (by intro z; cases z)
    refine ⟨_, (pss_cons (ps_set (i := 3) sc_Work_lay.nd rfl (Or.inl rfl) (pe_fld (pv 0) rfl))
      (pss_cons (ps_set (i := 4) sc_Work_lay.nd rfl (Or.inl rfl) (pe_op op_mod (pe_op op_add (pe_fld (pv 0) rfl) (pe_callB call_len_seq rfl T.u_len PySem.boot_len (pa_cons (pe_fld (pv 3) rfl) pa_nil))) (pe_callB call_len_seq rfl T.u_len PySem.boot_len (pa_cons (pv 2) pa_nil))))
      (pss_cons (ps_set (i := 5) sc_Work_lay.nd rfl (Or.inl rfl) (pe_fld (pv 3) rfl))
      (pss_cons (ps_asg (pv 5) (pg_sub (pv 2) (pv 4) set_list))
      (pss_cons (ps_fld (pv 3) pe_non rfl)
      (pss_cons (ps_expr (pe_bm PySem.F.plainAttrs_list PySem.F.slot_list_append PySem.F.type_list_append mt_append (pe_fld (pv 3) rfl) (pa_cons (pe_tup (pa_cons (pv 1) (pa_cons (pv 4) pa_nil))) pa_nil)))
      (pss_cons (ps_if (pt_cmpR op_eq (pe_callB call_len_seq rfl T.u_len PySem.boot_len (pa_cons (pe_fld (pv 3) rfl) pa_nil)) (pe_fld (pv 0) rfl) (nomark _))
      (pss_one (ps_fld (pv 0) pe_non rfl))
      pss_nil)
      (pss_one (ps_ret (pe_tup (pa_cons pe_str (pa_cons (pv 4) (pa_cons (pv 5) pa_nil))))))))))))), ?_⟩
    refine ⟨_, rfl, _, _, _, _, _, rfl, hself, T.cl_Work, T.n_Work_going, wo_going _, ?_⟩ -- going = self.going
    refine ⟨_, rfl, _, _, _, _, _, rfl, hself, T.cl_Work, T.n_Work_goal, wo_goal _, ?_⟩
    refine ⟨_, rfl, _, _, _, _, _, rfl, hg, T.cl_Going, T.n_Going_puts, gg_puts _, ?_⟩
    refine ⟨_, _, rfl, .inl (SqL.of hpl), ?_⟩ -- len
    refine ⟨_, _, rfl, rfl, ?_⟩ -- self.goal + len
    refine ⟨_, rfl, ?_⟩ -- words
    refine ⟨_, _, rfl, .inl (SqL.of hl), ?_⟩ -- len
    rw [List.length_map]
    refine ⟨_, _, rfl, rfl, (by omega), ?_⟩ -- %
    rw [hlen]
    refine ⟨_, rfl, _, _, _, _, _, rfl, hg, T.cl_Going, T.n_Going_hand, gg_hand _, ?_⟩ -- word = going.hand
    refine ⟨_, rfl, ?_⟩ -- word
    refine ⟨_, rfl, ?_⟩ -- words
    refine ⟨_, rfl, ?_⟩ -- address
    refine ⟨_, _, _, _, rfl, rfl, hl, ix_ok m0 (by rw [List.length_map]; exact m1), ?_⟩ -- words[address] = word
    show (tSeq _ _) _ _ (upd H l (.lst ((ws.map V.int).set _ (oV k.hand))))
    rw [hx]
    show (tSeq _ _) _ _ (upd H l (.lst ((ws.map V.int).set _ (V.int x))))
    rw [set_int]
    show (tSeq _ _) _ _ (upd H l (.lst ((ws.set ((k.goal + k.laid) % ws.length).toNat x).map V.int)))
    generalize e1 : upd H l (.lst ((ws.set ((k.goal + k.laid) % ws.length).toNat x).map V.int)) = H1
    have hg1 : H1 g = some (.ins (cGoing K) dg (ggF ⟨n, k.hand, pl⟩)) := by rw [← e1, upd_ne gl]; exact hg
    refine stf hg1 T.cl_Going T.n_Going_hand (gg_len _) (gg_put_handN _) ?_ -- going.hand = None
    generalize e2 : upd H1 g _ = H2
    have hg2 : H2 g = some (.ins (cGoing K) dg (ggF ⟨n, none, pl⟩)) := by rw [← e2]; exact upd_same
    have hpl2 : H2 pl = some (.lst xs) := by rw [← e2, upd_ne (Ne.symm gpl), ← e1, upd_ne (Ne.symm lpl)]; exact hpl
    have ha2 : H2 a = some (.ins (cWork K) dx (woF (k.wo (some g)))) := by rw [← e2, upd_ne ag, ← e1, upd_ne al]; exact hself
    have hl2 : H2 l = some (.lst ((ws.set ((k.goal + k.laid) % ws.length).toNat x).map V.int)) := by rw [← e2, upd_ne (Ne.symm gl), ← e1]; exact upd_same
    have k2 : Kept [a, g, pl, l] H H2 := by rw [← e2, ← e1]; exact ((Kept.refl _ H).put (by simp)).put (by simp)
    have f2 : ∀ p, H2 p = none → H p = none := fun p hp => by
      have h1 : p ≠ g := fun z => by rw [z, hg2] at hp; cases hp
      have h2 : p ≠ l := fun z => by rw [z, hl2] at hp; cases hp
      rw [← e2, upd_ne h1, ← e1, upd_ne h2] at hp
      exact hp
    refine ⟨_, rfl, _, _, _, _, _, rfl, hg2, T.cl_Going, T.n_Going_puts, gg_puts _, ?_⟩
    refine ⟨.inl ⟨rfl, _, SqL.of hpl2⟩, ?_⟩
    refine ⟨_, rfl, ?_⟩ -- when
    refine ⟨_, rfl, ?_⟩ -- address
    refine ⟨by show 2 ≤ sizeLine; decide, fun t ht => ?_⟩ -- (when, address)
    have tpl : pl ≠ t := ne_of_none hpl2 ht
    have tg : g ≠ t := ne_of_none hg2 ht
    have ta : a ≠ t := ne_of_none ha2 ht
    have tl : l ≠ t := ne_of_none hl2 ht
    refine ⟨_, _, _, rfl, rfl, by rw [upd_ne tpl]; exact hpl2, by show xs.length < 16777216; omega, ?_⟩ -- append
    generalize e3 : upd (upd H2 t _) pl _ = H3
    have hpl3 : H3 pl = some (.lst (xs ++ [.ref t])) := by rw [← e3]; exact upd_same
    have hg3 : H3 g = some (.ins (cGoing K) dg (ggF ⟨n, none, pl⟩)) := by rw [← e3, upd_ne gpl, upd_ne tg]; exact hg2
    have ha3 : H3 a = some (.ins (cWork K) dx (woF (k.wo (some g)))) := by rw [← e3, upd_ne apl, upd_ne ta]; exact ha2
    have hl3' : H3 l = some (.lst ((ws.set ((k.goal + k.laid) % ws.length).toNat x).map V.int)) := by rw [← e3, upd_ne lpl, upd_ne tl]; exact hl2
    have ht3 : H3 t = some (.tup [.int when, .int ((k.goal + k.laid) % ws.length)]) := by rw [← e3, upd_ne (Ne.symm tpl)]; exact upd_same
    have k3 : Kept [a, g, pl, l] H H3 := by rw [← e3]; exact (k2.new (f2 t ht)).put (by simp)
    refine ⟨_, rfl, _, _, _, _, _, rfl, hg3, T.cl_Going, T.n_Going_puts, gg_puts _, ?_⟩
    refine ⟨_, _, rfl, .inl (SqL.of hpl3), ?_⟩ -- len
    refine ⟨_, rfl, _, _, _, _, _, rfl, ha3, T.cl_Work, T.n_Work_many, wo_many _, ?_⟩
    refine ⟨rfl, ?_⟩
    refine ⟨_, rfl, ?_⟩ -- test
    rw [dec_intv]
    have el : ((xs ++ [V.ref t]).length : Int) = k.laid + 1 := by rw [List.length_append]; show ((xs.length + 1 : Nat) : Int) = _; omega
    rw [el]
    have fin : ∀ H4 : Hp, H4 pl = some (.lst (xs ++ [.ref t])) → H4 g = some (.ins (cGoing K) dg (ggF ⟨n, none, pl⟩)) → H4 a = some (.ins (cWork K) dx (woF (k.wo (if k.laid + 1 < k.many then some g else none)))) → H4 l = some (.lst ((ws.set ((k.goal + k.laid) % ws.length).toNat x).map V.int)) →
        H4 t = some (.tup [.int when, .int ((k.goal + k.laid) % ws.length)]) → Kept [a, g, pl, l] H H4 → (∀ p, H4 p = none → H p = none) →
        tRet (tTup (tCons (tC (.str "put")) (tCons (tVar 4) (tCons (tVar 5) tNil)))) { nx := fun _ H' => Q .non H', rt := Q } [some (.ref a), some (.int when), some (.ref l), some (.ref g), some (.int ((k.goal + k.laid) % ws.length)), some (oV (some x))] H4 := by
      intro H4 a1 a2 a3 a4 a5 a6 a7
      refine ⟨_, rfl, ?_⟩ -- address
      refine ⟨_, rfl, ?_⟩ -- word
      refine ⟨by show 3 ≤ sizeLine; decide, fun p hp => ?_⟩ -- ('put', address, word)
      have np := a7 p hp
      exact q _ p t ⟨np, f2 t ht, upd_same, by rw [upd_ne (ne_of_none a5 hp)]; exact a5, by rw [upd_ne (ne_of_none a1 hp)]; exact a1, by rw [upd_ne (ne_of_none a2 hp)]; exact a2, by rw [upd_ne (ne_of_none a3 hp)]; exact a3, by rw [upd_ne (ne_of_none a4 hp)]; exact a4, a6.new np⟩
    have f3 : ∀ p, H3 p = none → H p = none := fun p hp => by
      have h1 : p ≠ pl := fun z => by rw [z, hpl3] at hp; cases hp
      have h2 : p ≠ t := fun z => by rw [z, ht3] at hp; cases hp
      rw [← e3, upd_ne h1, upd_ne h2] at hp
      exact f2 p hp
    by_cases c : k.laid + 1 = k.many
    · have c' : ¬ k.laid + 1 < k.many := by omega
      rw [if_neg c'] at fin
      have c2 : (k.laid + 1 = (k.wo (some g)).many) := c
      rw [decide_eq_true c2]
      refine iteT ?_
      refine stf ha3 T.cl_Work T.n_Work_going (wo_len _) (wo_put_goingN _) ?_
      refine fin _ (by rw [upd_ne (Ne.symm apl)]; exact hpl3) (by rw [upd_ne (Ne.symm ag)]; exact hg3) upd_same (by rw [upd_ne (Ne.symm al)]; exact hl3') (by rw [upd_ne (Ne.symm ta)]; exact ht3) (k3.put (by simp)) (fun p hp => ?_)
      have h1 : p ≠ a := fun z => by rw [z, upd_same] at hp; cases hp
      rw [upd_ne h1] at hp
      exact f3 p hp
    · have c' : k.laid + 1 < k.many := by omega
      rw [if_pos c'] at fin
      have c2 : ¬ (k.laid + 1 = (k.wo (some g)).many) := c
      rw [decide_eq_false c2]
      exact iteF (fin _ hpl3 hg3 ha3 hl3' ht3 k3 f3)
def sp_Work_move (K : PySem.W.Frag) : Sp := fun vs H Q _ => ∃ (a dx g dg pl l : Addr) (k : Wk) (n when : Int) (xs : List V) (ws : List Int), vs = [.ref a, .int when, .ref l] ∧ H a = some (.ins (cWork K) dx (woF (k.wo (some g)))) ∧ H g = some (.ins (cGoing K) dg (ggF ⟨n, k.hand, pl⟩)) ∧ H pl = some (.lst xs) ∧ (xs.length : Int) = k.laid ∧
  H l = some (.lst (ws.map V.int)) ∧ 0 < ws.length ∧ a ≠ g ∧ l ≠ pl ∧ k.laid < k.many ∧ k.laid < 1000 ∧ (k.hand = none → ∀ H' p, FetchPost K H H' p g dg pl n k ws → Q (.ref p) H') ∧ (∀ x, k.hand = some x → ∀ H' p t, LayPost K H H' p t a dx g dg pl l n when k xs ws x → Q (.ref p) H')
theorem ok_Work_move (T : T w K mg) : FnR P w K mg base CX0 2 (He.ma K (He.ga K "Work") "move") (sp_Work_move K) := by
  have F_Work_fetch : FnR P w K mg base CX0 1 _ _ := ok_Work_fetch T
  have F_Work_lay : FnR P w K mg base CX0 1 _ _ := ok_Work_lay T
  obtain ⟨fd, F⟩ := T.f_Work_move
  refine F.r sc_Work_move (fun _ _ _ _ _ _ us hl => match us, hl with | [_, _, _], _ => rfl) (fun vs H Q E h => ?_) (fun cdv A outer s H vs Q E hr h => ?_)
  · obtain ⟨_, _, _, _, _, _, _, _, _, _, _, rfl, _⟩ := h
    rfl
  · obtain ⟨a, dx, g, dg, pl, l, k, n, when, xs, ws, rfl, hself, hg, hpl, hlen, hl, hw, ag, lpl, hlm, hl3, q1, q2⟩ := h
    refine ⟨_, (pss_cons (ps_if (pt_cmp (pc_isN (pe_fld (pe_fld (pv 0) rfl) rfl)))
      (pss_one (ps_ret (pe_mthR (pv 0) T.cl_Work T.m_Work_fetch F_Work_fetch (hr.mono (by decide)) (pa_cons (pv 2) pa_nil))))
      pss_nil)
      (pss_one (ps_ret (pe_mthR (pv 0) T.cl_Work T.m_Work_lay F_Work_lay (hr.mono (by decide)) (pa_cons (pv 1) (pa_cons (pv 2) pa_nil)))))), ?_⟩
    refine ⟨_, rfl, _, _, _, _, _, rfl, hself, T.cl_Work, T.n_Work_going, wo_going _, ?_⟩
    refine ⟨_, _, _, _, _, rfl, hg, T.cl_Going, T.n_Going_hand, gg_hand _, ?_⟩
    refine ⟨_, rfl, ?_⟩ -- test
    show if _ = true then _ else _
    cases hn : k.hand with
    | none =>
      refine iteT ?_
      refine ⟨_, rfl, ?_⟩ -- self
      refine ⟨_, _, _, rfl, hself, wo_no_fetch _, ?_⟩
      refine ⟨_, rfl, ?_⟩ -- words
      exact ⟨a, dx, g, dg, pl, l, k, n, xs, ws, rfl, hself, hg, hpl, hlen, hl, hw, q1 hn⟩
    | some x =>
      refine iteF ?_
      refine ⟨_, rfl, ?_⟩ -- self
      refine ⟨_, _, _, rfl, hself, wo_no_lay _, ?_⟩
      refine ⟨_, rfl, _, rfl, ?_⟩ -- when, words
      exact ⟨a, dx, g, dg, pl, l, k, n, when, x, xs, ws, rfl, hself, hg, hpl, hlen, hl, hw, ag, lpl, hn, hlm, hl3, q2 x hn⟩
end
end SB

set_option Elab.async false
set_option linter.all false
set_option maxRecDepth 100000
set_option maxHeartbeats 2000000
namespace SB
open PySem L2
structure Go where
  n : Nat
  hand : Option Int
  pu : List (Int × Int)
structure GH where
  G : List Go
  cur : List (Option Nat)
  nb : Nat
def GH.start (g : GH) (n : Nat) : GH := match g.cur[n]? with
  | some none => { g with G := g.G ++ [⟨n, none, []⟩], cur := g.cur.set n (some g.G.length) }
  | _ => g
def GH.move (g : GH) (j : Nat) (k : Wk) (when : Int) (ws : List Int) : GH := match g.cur[j]? with
  | some (some i) => (match g.G[i]? with
    | some e => (match k.hand with
      | none => { g with G := g.G.set i { e with hand := some (ws.getD ((k.begin + k.laid) % ws.length).toNat 0) } }
      | some _ => { g with G := g.G.set i { e with hand := none, pu := e.pu ++ [(when, (k.goal + k.laid) % ws.length)] }, cur := if k.laid + 1 < k.many then g.cur else g.cur.set j none })
    | none => g)
  | _ => g
structure GOk (ks : List Wk) (g : GH) : Prop where
  clen : g.cur.length = ks.length
  on : ∀ (j : Nat) (k : Wk) (i : Nat), ks[j]? = some k → g.cur[j]? = some (some i) → k.on = true ∧ ∃ e, g.G[i]? = some e ∧ e.n = j ∧ e.hand = k.hand ∧ (e.pu.length : Int) = k.laid ∧ k.laid < k.many
  off : ∀ (j : Nat) (k : Wk), ks[j]? = some k → g.cur[j]? = some none → k.on = false ∧ k.hand = none
  mb : ∀ k ∈ ks, 0 < k.many ∧ k.many ≤ 16
  nbl : g.nb ≤ g.G.length
section
variable {α : Type}
theorem gset_self {l : List α} {i : Nat} {x y : α} (h : l[i]? = some y) : (l.set i x)[i]? = some x := List.getElem?_set_self (List.getElem?_eq_some_iff.mp h).1
theorem gset_ne {l : List α} {i j : Nat} {x : α} (h : j ≠ i) : (l.set i x)[j]? = l[j]? := List.getElem?_set_ne (fun z => h z.symm)
theorem gapp {l r : List α} {i : Nat} {x : α} (h : l[i]? = some x) : (l ++ r)[i]? = some x := by rw [List.getElem?_append_left (List.getElem?_eq_some_iff.mp h).1]; exact h
theorem gend {l : List α} {x : α} : (l ++ [x])[l.length]? = some x := by simp
theorem set_same {l : List α} {i : Nat} {x : α} (h : l[i]? = some x) : l.set i x = l := by
  obtain ⟨hi, e⟩ := List.getElem?_eq_some_iff.mp h
  rw [← e]
  exact List.set_getElem_self hi
theorem modify_out {f : α → α} : ∀ {l : List α} {i : Nat}, l.length ≤ i → l.modify i f = l
  | [], i, _ => by cases i <;> rfl
  | a :: r, 0, h => by simp at h
  | a :: r, i + 1, h => by
    show a :: r.modify i f = a :: r
    rw [modify_out (by simpa using h)]
theorem modify_set {f : α → α} : ∀ {l : List α} {i : Nat} {x : α}, l[i]? = some x → l.modify i f = l.set i (f x)
  | [], i, x, h => by simp at h
  | a :: r, 0, x, h => by
    have e : a = x := by simpa using h
    subst e
    rfl
  | a :: r, i + 1, x, h => by
    show a :: r.modify i f = a :: r.set i (f x)
    rw [modify_set (by simpa using h)]
theorem all_modify {p : α → Prop} {f : α → α} (hf : ∀ x, p x → p (f x)) : ∀ {l : List α} {i : Nat}, (∀ x ∈ l, p x) → ∀ x ∈ l.modify i f, p x
  | [], i, h, x, hx => by cases i <;> simp [List.modify] at hx
  | a :: r, 0, h, x, hx => by
    have hx' : x ∈ f a :: r := hx
    rcases List.mem_cons.mp hx' with rfl | hx'
    · exact hf a (h a List.mem_cons_self)
    · exact h x (List.mem_cons_of_mem _ hx')
  | a :: r, i + 1, h, x, hx => by
    have hx' : x ∈ a :: r.modify i f := hx
    rcases List.mem_cons.mp hx' with rfl | hx'
    · exact h x List.mem_cons_self
    · exact all_modify hf (fun y hy => h y (List.mem_cons_of_mem _ hy)) x hx'
theorem all_set {p : α → Prop} {l : List α} {i : Nat} {y : α} (h : ∀ x ∈ l, p x) (hy : p y) : ∀ x ∈ l.set i y, p x := fun x hx => by
  rcases List.mem_or_eq_of_mem_set hx with z | z
  · exact h x z
  · rw [z]; exact hy
end
section
variable {ks : List Wk} {g : GH}
theorem start_none {n : Nat} (h : g.cur[n]? = none) : g.start n = g := by unfold GH.start; rw [h]
theorem start_on {n i : Nat} (h : g.cur[n]? = some (some i)) : g.start n = g := by unfold GH.start; rw [h]
theorem start_off {n : Nat} (h : g.cur[n]? = some none) : g.start n = { g with G := g.G ++ [⟨n, none, []⟩], cur := g.cur.set n (some g.G.length) } := by unfold GH.start; rw [h]
theorem move_eq {j i : Nat} {e : Go} {k : Wk} {when : Int} {ws : List Int} (h1 : g.cur[j]? = some (some i)) (h2 : g.G[i]? = some e) : g.move j k when ws = (match k.hand with
      | none => { g with G := g.G.set i { e with hand := some (ws.getD ((k.begin + k.laid) % ws.length).toNat 0) } }
      | some _ => { g with G := g.G.set i { e with hand := none, pu := e.pu ++ [(when, (k.goal + k.laid) % ws.length)] }, cur := if k.laid + 1 < k.many then g.cur else g.cur.set j none }) := by
  unfold GH.move
  rw [h1]
  simp only [h2]
theorem GOk.start_same (O : GOk ks g) {n : Nat} (h : g.cur[n]? ≠ some none) : ks.modify n Wk.start = ks := by
  cases e : g.cur[n]? with
  | none =>
    have := List.getElem?_eq_none_iff.mp e
    rw [O.clen] at this
    exact modify_out this
  | some o =>
    cases o with
    | none => exact absurd e h
    | some i =>
      have hn : n < ks.length := by rw [← O.clen]; exact (List.getElem?_eq_some_iff.mp e).1
      have hk := List.getElem?_eq_getElem hn
      rw [modify_set hk]
      have ho := (O.on n _ i hk e).1
      have es : (ks[n]).start = ks[n] := by unfold Wk.start; rw [if_pos ho]
      rw [es]
      exact set_same hk
theorem GOk.start (O : GOk ks g) (n : Nat) : GOk (ks.modify n Wk.start) (g.start n) := by
  by_cases h : g.cur[n]? = some none
  · have hn : n < ks.length := by rw [← O.clen]; exact (List.getElem?_eq_some_iff.mp h).1
    have hk := List.getElem?_eq_getElem hn
    obtain ⟨o1, o2⟩ := O.off n _ hk h
    rw [start_off h, modify_set hk]
    have es : (ks[n]).start = { ks[n] with on := true, laid := 0 } := by unfold Wk.start; rw [o1]; rfl
    rw [es]
    have mb := O.mb _ (List.mem_of_getElem? hk)
    refine ⟨by simp [O.clen], fun j k i h1 h2 => ?_, fun j k h1 h2 => ?_, all_set O.mb mb, ?_⟩
    · by_cases hj : j = n
      · subst hj
        rw [gset_self hk] at h1
        have h2' : (g.cur.set j (some g.G.length))[j]? = some (some i) := h2
        rw [gset_self h] at h2'
        cases h1
        cases h2'
        exact ⟨rfl, _, gend, rfl, o2.symm, rfl, mb.1⟩
      · rw [gset_ne hj] at h1
        have h2' : (g.cur.set n (some g.G.length))[j]? = some (some i) := h2
        rw [gset_ne hj] at h2'
        obtain ⟨p1, e, p2, p3⟩ := O.on j k i h1 h2'
        exact ⟨p1, e, gapp p2, p3⟩
    · by_cases hj : j = n
      · subst hj
        have h2' : (g.cur.set j (some g.G.length))[j]? = some none := h2
        rw [gset_self h] at h2'
        cases h2'
      · rw [gset_ne hj] at h1
        have h2' : (g.cur.set n (some g.G.length))[j]? = some none := h2
        rw [gset_ne hj] at h2'
        exact O.off j k h1 h2'
    · have := O.nbl
      show g.nb ≤ (g.G ++ [_]).length
      rw [List.length_append]
      omega
  · rw [O.start_same h]
    cases e : g.cur[n]? with
    | none => rw [start_none e]; exact O
    | some o =>
      cases o with
      | none => exact absurd e h
      | some i => rw [start_on e]; exact O
theorem GOk.inj (O : GOk ks g) {j j' i : Nat} (h : g.cur[j]? = some (some i)) (h' : g.cur[j']? = some (some i)) : j = j' := by
  have f : ∀ {j : Nat}, g.cur[j]? = some (some i) → ∃ k, ks[j]? = some k := fun {j} h => ⟨_, List.getElem?_eq_getElem (by rw [← O.clen]; exact (List.getElem?_eq_some_iff.mp h).1)⟩
  obtain ⟨k, hk⟩ := f h
  obtain ⟨k', hk'⟩ := f h'
  obtain ⟨_, e, e1, e2, _⟩ := O.on j k i hk h
  obtain ⟨_, e', e1', e2', _⟩ := O.on j' k' i hk' h'
  rw [e1] at e1'
  cases e1'
  rw [← e2, ← e2']
theorem GOk.move (O : GOk ks g) {j i : Nat} {k : Wk} {ws : List Int} {when : Int} (hk : ks[j]? = some k) (hc : g.cur[j]? = some (some i)) : GOk (ks.set j (k.move ws).1) (g.move j k when ws) := by
  obtain ⟨p1, e, p2, p3, p4, p5, p6⟩ := O.on j k i hk hc
  have hi : ∀ {j' i' : Nat}, g.cur[j']? = some (some i') → j' ≠ j → i' ≠ i := fun h n z => by subst z; exact n (O.inj h hc)
  rw [move_eq hc p2]
  have mb := O.mb _ (List.mem_of_getElem? hk)
  unfold Wk.move
  cases hh : k.hand with
  | none =>
    dsimp only
    refine ⟨by simp [O.clen], fun j' k' i' h1 h2 => ?_, fun j' k' h1 h2 => ?_, all_set O.mb mb, by simpa using O.nbl⟩
    · by_cases hj : j' = j
      · subst hj
        rw [gset_self hk] at h1
        cases h1
        have h2' : g.cur[j']? = some (some i') := h2
        rw [hc] at h2'
        cases h2'
        exact ⟨p1, _, gset_self p2, p3, rfl, p5, p6⟩
      · rw [gset_ne hj] at h1
        obtain ⟨q1, e', q2, q3⟩ := O.on j' k' i' h1 h2
        exact ⟨q1, e', by rw [gset_ne (hi h2 hj)]; exact q2, q3⟩
    · by_cases hj : j' = j
      · subst hj
        have h2' : g.cur[j']? = some none := h2
        rw [hc] at h2'
        cases h2'
      · rw [gset_ne hj] at h1
        exact O.off j' k' h1 h2
  | some x =>
    dsimp only
    have cl : (if k.laid + 1 < k.many then g.cur else g.cur.set j none).length = (ks.set j ({ k with hand := none, laid := k.laid + 1, on := decide (k.laid + 1 < k.many) })).length := by
      split <;> simp [O.clen]
    refine ⟨cl, fun j' k' i' h1 h2 => ?_, fun j' k' h1 h2 => ?_, all_set O.mb mb, by simpa using O.nbl⟩
    · by_cases hj : j' = j
      · subst hj
        rw [gset_self hk] at h1
        cases h1
        have h2' : (if k.laid + 1 < k.many then g.cur else g.cur.set j' none)[j']? = some (some i') := h2
        by_cases c : k.laid + 1 < k.many
        · rw [if_pos c, hc] at h2'
          cases h2'
          refine ⟨decide_eq_true c, _, gset_self p2, p3, rfl, ?_, c⟩
          show (((e.pu ++ [_]).length : Nat) : Int) = k.laid + 1
          rw [List.length_append]
          show ((e.pu.length + 1 : Nat) : Int) = k.laid + 1
          omega
        · rw [if_neg c, gset_self hc] at h2'
          cases h2'
      · rw [gset_ne hj] at h1
        have h2' : g.cur[j']? = some (some i') := by
          have h3 : (if k.laid + 1 < k.many then g.cur else g.cur.set j none)[j']? = some (some i') := h2
          by_cases c : k.laid + 1 < k.many
          · rw [if_pos c] at h3; exact h3
          · rw [if_neg c, gset_ne hj] at h3; exact h3
        obtain ⟨q1, e', q2, q3⟩ := O.on j' k' i' h1 h2'
        exact ⟨q1, e', by rw [gset_ne (hi h2' hj)]; exact q2, q3⟩
    · have h3 : (if k.laid + 1 < k.many then g.cur else g.cur.set j none)[j']? = some none := h2
      by_cases hj : j' = j
      · subst hj
        rw [gset_self hk] at h1
        cases h1
        by_cases c : k.laid + 1 < k.many
        · rw [if_pos c, hc] at h3
          cases h3
        · exact ⟨decide_eq_false c, rfl⟩
      · rw [gset_ne hj] at h1
        refine O.off j' k' h1 ?_
        by_cases c : k.laid + 1 < k.many
        · rw [if_pos c] at h3; exact h3
        · rw [if_neg c, gset_ne hj] at h3; exact h3
end
structure Step (F : List Addr) (H : Hp) (F' : List Addr) (H' : Hp) : Prop where
  kp : Kept F H H'
  gr : ∀ b ∈ F', b ∈ F ∨ H b = none
  fr : ∀ b, H' b = none → H b = none
theorem upd_none {H : Hp} {p b : Addr} {o : HO} (h : L2.upd H p o b = none) : H b = none := by
  by_cases e : b = p
  · rw [e, upd_same] at h; cases h
  · rw [upd_ne e] at h; exact h
theorem Kept.fr {as : List Addr} {H H' : Hp} (k : Kept as H H') (h : ∀ b ∈ as, H' b ≠ none) : ∀ b, H' b = none → H b = none := fun b hb => k.free hb (fun z => h b z hb)
theorem Step.refl (F : List Addr) (H : Hp) : Step F H F H := ⟨Kept.refl _ _, fun b h => .inl h, fun _ h => h⟩
theorem Step.same {F : List Addr} {H H' : Hp} (s : Same H H') : Step F H F H' := ⟨Kept.same s, fun b h => .inl h, fun _ h => Same.free s h⟩
theorem Step.of {F : List Addr} {H H' : Hp} (s : Kept F H H') (fr : ∀ b, H' b = none → H b = none) : Step F H F H' := ⟨s, fun b h => .inl h, fr⟩
theorem Step.trans {F F1 F2 : List Addr} {H H1 H2 : Hp} (a : Step F H F1 H1) (b : Step F1 H1 F2 H2) : Step F H F2 H2 := by
  refine ⟨fun c o h n => b.kp c o (a.kp c o h n) fun z => ?_, fun c hc => ?_, fun c h => a.fr c (b.fr c h)⟩
  · rcases a.gr c z with z | z
    · exact n z
    · rw [z] at h; cases h
  · rcases b.gr c hc with z | z
    · exact a.gr c z
    · exact .inr (a.fr c z)
theorem Step.apart {F F' : List Addr} {H H' : Hp} (a : Step F H F' H') {p : Addr} {o : HO} (h : H p = some o) (n : p ∉ F) : p ∉ F' := fun z => by
  rcases a.gr p z with z | z
  · exact n z
  · rw [z] at h; cases h
structure Stp (X F : List Addr) (H : Hp) (F' : List Addr) (H' : Hp) : Prop where
  kp : Kept (X ++ F) H H'
  gr : ∀ b ∈ F', b ∈ F ∨ H b = none
  fr : ∀ b, H' b = none → H b = none
theorem Stp.refl (X F : List Addr) (H : Hp) : Stp X F H F H := ⟨Kept.refl _ _, fun b h => .inl h, fun _ h => h⟩
theorem Stp.same {X F : List Addr} {H H' : Hp} (s : Same H H') : Stp X F H F H' := ⟨Kept.same s, fun b h => .inl h, fun _ h => Same.free s h⟩
theorem Stp.of {X F : List Addr} {H H' : Hp} (s : Kept (X ++ F) H H') (fr : ∀ b, H' b = none → H b = none) : Stp X F H F H' := ⟨s, fun b h => .inl h, fr⟩
theorem Stp.trans {X F F1 F2 : List Addr} {H H1 H2 : Hp} (a : Stp X F H F1 H1) (b : Stp X F1 H1 F2 H2) : Stp X F H F2 H2 := by
  refine ⟨fun c o h n => b.kp c o (a.kp c o h n) fun z => ?_, fun c hc => ?_, fun c h => a.fr c (b.fr c h)⟩
  · rcases List.mem_append.mp z with z | z
    · exact n (List.mem_append.mpr (.inl z))
    · rcases a.gr c z with z | z
      · exact n (List.mem_append.mpr (.inr z))
      · rw [z] at h; cases h
  · rcases b.gr c hc with z | z
    · exact a.gr c z
    · exact .inr (a.fr c z)
theorem Stp.mono {X Y F F' : List Addr} {H H' : Hp} (a : Stp X F H F' H') (h : ∀ x ∈ X, x ∈ Y) : Stp Y F H F' H' :=
  ⟨a.kp.mono (fun x hx => by
    rcases List.mem_append.mp hx with z | z
    · exact List.mem_append.mpr (.inl (h x z))
    · exact List.mem_append.mpr (.inr z)), a.gr, a.fr⟩
theorem Step.more {F F' : List Addr} {H H' : Hp} (a : Step F H F' H') (X : List Addr) : Stp X F H F' H' := ⟨a.kp.mono (fun x hx => List.mem_append.mpr (.inr hx)), a.gr, a.fr⟩
theorem Stp.apart {X F F' : List Addr} {H H' : Hp} (a : Stp X F H F' H') {p : Addr} {o : HO} (h : H p = some o) (n : p ∉ F) : p ∉ F' := fun z => by
  rcases a.gr p z with z | z
  · exact n z
  · rw [z] at h; cases h
theorem Stp.all {X F F' : List Addr} {H H' : Hp} (a : Stp X F H F' H') : Step (X ++ F) H (X ++ F') H' := ⟨a.kp, fun b hb => by
  rcases List.mem_append.mp hb with z | z
  · exact .inl (List.mem_append.mpr (.inl z))
  · rcases a.gr b z with z | z
    · exact .inl (List.mem_append.mpr (.inr z))
    · exact .inr z, a.fr⟩
structure TupsAt (H : Hp) (D : Addr) (ps : List Addr) (vss : List (List V)) : Prop where
  lst : H D = some (.lst (ps.map V.ref))
  len : ps.length = vss.length
  at_ : ∀ (j : Nat) (p : Addr) (vs : List V), ps[j]? = some p → vss[j]? = some vs → H p = some (.tup vs)
section
variable {H H' : Hp}
theorem tups_snoc {D p : Addr} {ps : List Addr} {vss : List (List V)} {vs : List V} (t : TupsAt H D ps vss) (h1 : H' D = some (.lst ((ps ++ [p]).map V.ref))) (h2 : H' p = some (.tup vs)) (kp : ∀ q us, H q = some (.tup us) → H' q = some (.tup us)) : TupsAt H' D (ps ++ [p]) (vss ++ [vs]) := by
  refine ⟨h1, by simp [t.len], fun j q us e1 e2 => ?_⟩
  by_cases hj : j < ps.length
  · rw [List.getElem?_append_left hj] at e1
    rw [List.getElem?_append_left (by rw [← t.len]; exact hj)] at e2
    exact kp _ _ (t.at_ j q us e1 e2)
  · have ej : j = ps.length := by
      have := (List.getElem?_eq_some_iff.mp e1).1
      rw [List.length_append] at this
      simp at this
      omega
    subst ej
    rw [List.getElem?_append_right (Nat.le_refl _), Nat.sub_self] at e1
    rw [List.getElem?_append_right (by rw [t.len]; exact Nat.le_refl _), t.len, Nat.sub_self] at e2
    have e5 : p = q := by simpa using e1
    have e6 : vs = us := by simpa using e2
    subst e5 e6
    exact h2
theorem TupsAt.snoc {D p : Addr} {ps : List Addr} {vss : List (List V)} {vs : List V} (t : TupsAt H D ps vss) (hp : H p = none) : TupsAt (upd (upd H p (.tup vs)) D (.lst ((ps ++ [p]).map V.ref))) D (ps ++ [p]) (vss ++ [vs]) := by
  refine tups_snoc t upd_same (by rw [upd_ne (Ne.symm (ne_of_none t.lst hp)), upd_same]) (fun q us e => ?_)
  have h1 : q ≠ D := ne_of e t.lst (by intro z; cases z)
  rw [upd_ne h1, upd_ne (ne_of_none e hp)]
  exact e
theorem TupsAt.keep {D : Addr} {ps : List Addr} {vss : List (List V)} (t : TupsAt H D ps vss) (s : Same H H') : TupsAt H' D ps vss := ⟨s _ _ t.lst, t.len, fun j p vs e1 e2 => s _ _ (t.at_ j p vs e1 e2)⟩
end
end SB

set_option Elab.async false
set_option linter.all false
set_option maxRecDepth 100000
set_option maxHeartbeats 2000000
namespace SB
open PySem L2
def notTup : HO → Bool
  | .tup _ => false | .frz _ _ => false | _ => true
structure GA where
  g : Addr
  dg : Addr
  pl : Addr
  ps : List Addr
structure DA where
  d : Addr
  dd : Addr
  l : Addr
  lb : Addr
  was : List (Addr × Addr)
  gas : List GA
def DA.foot (a : DA) : List Addr := a.d :: a.l :: a.lb :: (a.was.map (·.1) ++ (a.gas.map (·.g) ++ a.gas.map (·.pl)))
structure DLe (a a' : DA) : Prop where
  d : a'.d = a.d
  gs : ∃ r, a'.gas.map (·.g) = a.gas.map (·.g) ++ r
theorem DLe.refl (a : DA) : DLe a a := ⟨rfl, [], by simp⟩
theorem DLe.trans {a b c : DA} (x : DLe a b) (y : DLe b c) : DLe a c := by
  obtain ⟨x1, r, x2⟩ := x
  obtain ⟨y1, r', y2⟩ := y
  exact ⟨y1.trans x1, r ++ r', by rw [y2, x2, List.append_assoc]⟩
def puV (x : Int × Int) : List V := [.int x.1, .int x.2]
def goA (gas : List GA) : Option (Option Nat) → Option Addr
  | some (some i) => (gas[i]?).map (·.g)
  | _ => none
structure DevAt (K : PySem.W.Frag) (H : Hp) (a : DA) (ks : List Wk) (took : Bool) (g : GH) : Prop where
  ob : H a.d = some (.ins (cDevice K) a.dd (dvF ⟨a.l, took, a.lb⟩))
  lst : H a.l = some (.lst (a.was.map fun p => V.ref p.1))
  bg : H a.lb = some (.lst ((a.gas.drop g.nb).map fun x => V.ref x.g))
  wk : ∀ (j : Nat) (x : Addr × Addr) (k : Wk), a.was[j]? = some x → ks[j]? = some k → H x.1 = some (.ins (cWork K) x.2 (woF (k.wo (goA a.gas g.cur[j]?))))
  go : ∀ (i : Nat) (x : GA) (e : Go), a.gas[i]? = some x → g.G[i]? = some e → H x.g = some (.ins (cGoing K) x.dg (ggF ⟨(e.n : Int), e.hand, x.pl⟩)) ∧ TupsAt H x.pl x.ps (e.pu.map puV)
  len : a.was.length = ks.length
  glen : a.gas.length = g.G.length
  co : GOk ks g
  nw : (a.was.map (·.1)).Nodup
  ng : (a.gas.map (·.g)).Nodup
  nl : (a.l :: a.lb :: a.gas.map (·.pl)).Nodup
def WkOk (n : Nat) (k : Wk) : Prop := 0 < k.block ∧ (∀ i, k.mark = some i → 0 ≤ i ∧ i < n) ∧ ∀ f, k.follow = some f → 0 ≤ f
def isOn (ks : List Wk) (n : Int) : Bool := match ks[n.toNat]? with
  | some k => k.on
  | none => false
def takes (ms : List Bool) (wanted took : Bool) (k : Wk) : Bool := k.on && (!k.held ms && k.may wanted took)
def devMove (ks : List Wk) (took wanted : Bool) (ms : List Bool) (ws : List Int) : List Wk × Bool × List Int × Option (Int × Str × Int × Int) :=
  match ks.findIdx? (takes ms wanted took) with
  | none => (ks, false, ws, none)
  | some j => match ks[j]? with
    | none => (ks, false, ws, none)
    | some k => ((if (k.move ws).1.on = true then ks.set j (k.move ws).1 else match (k.move ws).1.follow with
        | none => ks.set j (k.move ws).1
        | some f => (ks.set j (k.move ws).1).modify f.toNat Wk.start), true, (k.move ws).2.1, some ((j : Int), (k.move ws).2.2))
def devG (ks : List Wk) (took wanted : Bool) (ms : List Bool) (ws : List Int) (when : Int) (g : GH) : GH := match ks.findIdx? (takes ms wanted took) with
  | none => g
  | some j => match ks[j]? with
    | none => g
    | some k => if (k.move ws).1.on = true then g.move j k when ws else match (k.move ws).1.follow with
        | none => g.move j k when ws
        | some f => (g.move j k when ws).start f.toNat
theorem at_ref {was : List (Addr × Addr)} {n : Int} {p : Addr × Addr} (h0 : 0 ≤ n) (h : was[n.toNat]? = some p) : atI (was.map fun p => V.ref p.1) n = some (.ref p.1) := by
  unfold atI ixN
  have h1 : n.toNat < was.length := (List.getElem?_eq_some_iff.mp h).1
  rw [if_pos h0, List.length_map, if_pos (by omega)]
  show (was.map _)[n.toNat]? = _
  rw [List.getElem?_map, h]
  rfl
theorem fs_ne {fs fs' : List (Str × V)} {f : Str} {v : V} (h : fs.lookup f = none) (h' : fs'.lookup f = some v) : fs ≠ fs' := fun z => by rw [z, h'] at h; cases h
theorem dv_no_begin (k : Dv) : (dvF k).lookup ("begin" : Str) = none := by kernel_rfl
theorem gg_no_begin (k : Gg) : (ggF k).lookup ("begin" : Str) = none := by kernel_rfl
theorem gg_no_works (k : Gg) : (ggF k).lookup ("works" : Str) = none := by kernel_rfl
theorem ins_ne_ins {H : Hp} {p q C dx C' dx' : Addr} {fs fs' : List (Str × V)} (h : H p = some (.ins C dx fs)) (h' : H q = some (.ins C' dx' fs')) (n : fs ≠ fs') : p ≠ q := fun z => by
  rw [z, h'] at h
  exact n (HO.ins.inj (Option.some.inj h)).2.2.symm
theorem lst_ne_ins {H : Hp} {p q : Addr} {xs : List V} {C dx : Addr} {fs : List (Str × V)} (h : H p = some (.lst xs)) (h' : H q = some (.ins C dx fs)) : p ≠ q := ne_of h h' (by intro z; cases z)
theorem ins_ne_lst {H : Hp} {p q : Addr} {xs : List V} {C dx : Addr} {fs : List (Str × V)} (h' : H q = some (.ins C dx fs)) (h : H p = some (.lst xs)) : q ≠ p := ne_of h' h (by intro z; cases z)
theorem map_set_id {α β : Type} {f : α → β} {l : List α} {i : Nat} {x y : α} (h : l[i]? = some x) (e : f y = f x) : (l.set i y).map f = l.map f := by
  rw [List.map_set, e]
  exact set_same (by rw [List.getElem?_map, h]; rfl)
theorem gas_g {l : List GA} {i : Nat} {y : GA} {ps : List Addr} (h : l[i]? = some y) : (l.set i { y with ps := ps }).map (·.g) = l.map (·.g) := map_set_id h rfl
theorem gas_pl {l : List GA} {i : Nat} {y : GA} {ps : List Addr} (h : l[i]? = some y) : (l.set i { y with ps := ps }).map (·.pl) = l.map (·.pl) := map_set_id h rfl
theorem gas_ref {l : List GA} {i : Nat} {y : GA} {ps : List Addr} (h : l[i]? = some y) : (l.set i { y with ps := ps }).map (fun x => V.ref x.g) = l.map (fun x => V.ref x.g) := map_set_id h rfl
section
variable {P : Program} {w : World} {K : PySem.W.Frag} {mg : Str → Option Value} {base : Heap}
variable {H H' : Hp} {a : DA} {ks : List Wk} {took : Bool} {g : GH}
theorem mem_of_map {α : Type} {f : α → Addr} {l : List α} {i : Nat} {x : α} (h : l[i]? = some x) : f x ∈ l.map f := List.mem_map.mpr ⟨x, List.mem_of_getElem? h, rfl⟩
theorem DA.inW {j : Nat} {x : Addr × Addr} (h : a.was[j]? = some x) : x.1 ∈ a.foot := by
  unfold DA.foot
  simp only [List.mem_cons, List.mem_append]
  exact .inr (.inr (.inr (.inl (mem_of_map (f := fun p : Addr × Addr => p.1) h))))
theorem DA.inG {j : Nat} {x : GA} (h : a.gas[j]? = some x) : x.g ∈ a.foot := by
  unfold DA.foot
  simp only [List.mem_cons, List.mem_append]
  exact .inr (.inr (.inr (.inr (.inl (mem_of_map (f := fun p : GA => p.g) h)))))
theorem DA.inP {j : Nat} {x : GA} (h : a.gas[j]? = some x) : x.pl ∈ a.foot := by
  unfold DA.foot
  simp only [List.mem_cons, List.mem_append]
  exact .inr (.inr (.inr (.inr (.inr (mem_of_map (f := fun p : GA => p.pl) h)))))
theorem DA.inD : a.d ∈ a.foot := by unfold DA.foot; simp
theorem DA.inL : a.l ∈ a.foot := by unfold DA.foot; simp
theorem DA.inB : a.lb ∈ a.foot := by unfold DA.foot; simp
theorem DevAt.get (D : DevAt K H a ks took g) {j : Nat} {k : Wk} (h : ks[j]? = some k) : ∃ x, a.was[j]? = some x ∧ H x.1 = some (.ins (cWork K) x.2 (woF (k.wo (goA a.gas g.cur[j]?)))) := by
  have h1 : j < ks.length := (List.getElem?_eq_some_iff.mp h).1
  have h2 : j < a.was.length := by rw [D.len]; exact h1
  exact ⟨a.was[j], List.getElem?_eq_getElem h2, D.wk j _ k (List.getElem?_eq_getElem h2) h⟩
theorem DevAt.getG (D : DevAt K H a ks took g) {i : Nat} {e : Go} (h : g.G[i]? = some e) : ∃ x, a.gas[i]? = some x ∧ H x.g = some (.ins (cGoing K) x.dg (ggF ⟨(e.n : Int), e.hand, x.pl⟩)) ∧ TupsAt H x.pl x.ps (e.pu.map puV) := by
  have h1 : i < g.G.length := (List.getElem?_eq_some_iff.mp h).1
  have h2 : i < a.gas.length := by rw [D.glen]; exact h1
  exact ⟨a.gas[i], List.getElem?_eq_getElem h2, D.go i _ e (List.getElem?_eq_getElem h2) h⟩
theorem DevAt.getW (D : DevAt K H a ks took g) {j : Nat} {x : Addr × Addr} (h : a.was[j]? = some x) : ∃ k, ks[j]? = some k ∧ H x.1 = some (.ins (cWork K) x.2 (woF (k.wo (goA a.gas g.cur[j]?)))) := by
  have h2 : j < ks.length := by rw [← D.len]; exact (List.getElem?_eq_some_iff.mp h).1
  exact ⟨_, List.getElem?_eq_getElem h2, D.wk j _ _ h (List.getElem?_eq_getElem h2)⟩
theorem DevAt.getA (D : DevAt K H a ks took g) {i : Nat} {x : GA} (h : a.gas[i]? = some x) : ∃ e, g.G[i]? = some e ∧ H x.g = some (.ins (cGoing K) x.dg (ggF ⟨(e.n : Int), e.hand, x.pl⟩)) ∧ TupsAt H x.pl x.ps (e.pu.map puV) := by
  have h2 : i < g.G.length := by rw [← D.glen]; exact (List.getElem?_eq_some_iff.mp h).1
  exact ⟨_, List.getElem?_eq_getElem h2, D.go i _ _ h (List.getElem?_eq_getElem h2)⟩
theorem DevAt.inF (D : DevAt K H a ks took g) : ∀ b ∈ a.foot, ∃ u, H b = some u ∧ notTup u = true := fun b hb => by
  unfold DA.foot at hb
  simp only [List.mem_cons, List.mem_append] at hb
  rcases hb with rfl | rfl | rfl | hb | hb | hb
  · exact ⟨_, D.ob, rfl⟩
  · exact ⟨_, D.lst, rfl⟩
  · exact ⟨_, D.bg, rfl⟩
  · obtain ⟨pr, hpr, e⟩ := List.mem_map.mp hb
    obtain ⟨i, hi, ei⟩ := List.mem_iff_getElem.mp hpr
    obtain ⟨k, _, h⟩ := D.getW (List.getElem?_eq_getElem hi)
    rw [ei, e] at h
    exact ⟨_, h, rfl⟩
  · obtain ⟨pr, hpr, e⟩ := List.mem_map.mp hb
    obtain ⟨i, hi, ei⟩ := List.mem_iff_getElem.mp hpr
    obtain ⟨k, _, h, _⟩ := D.getA (List.getElem?_eq_getElem hi)
    rw [ei, e] at h
    exact ⟨_, h, rfl⟩
  · obtain ⟨pr, hpr, e⟩ := List.mem_map.mp hb
    obtain ⟨i, hi, ei⟩ := List.mem_iff_getElem.mp hpr
    obtain ⟨k, _, _, h⟩ := D.getA (List.getElem?_eq_getElem hi)
    have h := h.lst
    rw [ei, e] at h
    exact ⟨_, h, rfl⟩
theorem TupsAt.stay {D : Addr} {ps : List Addr} {vss : List (List V)} {as : List Addr} (t : TupsAt H D ps vss) (k : Kept as H H') (h : D ∉ as) (hn : ∀ b ∈ as, ∃ u, H b = some u ∧ notTup u = true) : TupsAt H' D ps vss :=
  ⟨k _ _ t.lst h, t.len, fun j p vs e1 e2 => k _ _ (t.at_ j p vs e1 e2) fun z => by
    obtain ⟨u, hu, hu2⟩ := hn p z
    rw [t.at_ j p vs e1 e2] at hu
    cases hu
    cases hu2⟩
theorem DevAt.stay (D : DevAt K H a ks took g) {as : List Addr} (k : Kept as H H') (h : ∀ b ∈ a.foot, b ∉ as) (hn : ∀ b ∈ as, ∃ u, H b = some u ∧ notTup u = true) : DevAt K H' a ks took g :=
  ⟨k _ _ D.ob (h _ DA.inD), k _ _ D.lst (h _ DA.inL), k _ _ D.bg (h _ DA.inB), fun j x y e1 e2 => k _ _ (D.wk j x y e1 e2) (h _ (DA.inW e1)), fun i x e e1 e2 => ⟨k _ _ (D.go i x e e1 e2).1 (h _ (DA.inG e1)), (D.go i x e e1 e2).2.stay k (h _ (DA.inP e1)) hn⟩, D.len, D.glen, D.co, D.nw, D.ng, D.nl⟩
theorem DevAt.same (D : DevAt K H a ks took g) (s : Same H H') : DevAt K H' a ks took g := D.stay (Kept.same (as := []) s) (by simp) (by simp)
theorem DevAt.upd (D : DevAt K H a ks took g) {p : Addr} {u o : HO} (hp : H p = some u) (hu : notTup u = true) (h : p ∉ a.foot) : DevAt K (L2.upd H p o) a ks took g :=
  D.stay (as := [p]) ((Kept.refl _ H).put (by simp)) (fun b hb z => h (by
    have e : b = p := by simpa using z
    rw [← e]
    exact hb)) (fun b hb => by
    have e : b = p := by simpa using hb
    rw [e]
    exact ⟨_, hp, hu⟩)
theorem nd_at {α : Type} {f : α → Addr} {l : List α} (nd : (l.map f).Nodup) {i j : Nat} {x y : α} (h1 : l[i]? = some x) (h2 : l[j]? = some y) (e : f x = f y) : i = j :=
  nd_ix nd (by rw [List.getElem?_map, h1]; rfl) (by rw [List.getElem?_map, h2, e]; rfl)
theorem DevAt.dW (D : DevAt K H a ks took g) {j : Nat} {x : Addr × Addr} (h : a.was[j]? = some x) : a.d ≠ x.1 := by
  obtain ⟨k, _, e⟩ := D.getW h
  exact ins_ne_ins D.ob e (fs_ne (dv_no_begin _) (wo_begin _))
theorem DevAt.dG (D : DevAt K H a ks took g) {j : Nat} {x : GA} (h : a.gas[j]? = some x) : a.d ≠ x.g := by
  obtain ⟨k, _, e, _⟩ := D.getA h
  exact Ne.symm (ins_ne_ins e D.ob (fs_ne (gg_no_works _) (dv_works _)))
theorem DevAt.wG (D : DevAt K H a ks took g) {i j : Nat} {x : GA} {y : Addr × Addr} (h : a.gas[i]? = some x) (h' : a.was[j]? = some y) : x.g ≠ y.1 := by
  obtain ⟨_, _, e, _⟩ := D.getA h
  obtain ⟨_, _, e'⟩ := D.getW h'
  exact ins_ne_ins e e' (fs_ne (gg_no_begin _) (wo_begin _))
theorem DevAt.lbne (D : DevAt K H a ks took g) : a.lb ≠ a.l := fun z => by
  have := (List.nodup_cons.mp D.nl).1
  rw [← z] at this
  exact this List.mem_cons_self
theorem DevAt.plL (D : DevAt K H a ks took g) {j : Nat} {x : GA} (h : a.gas[j]? = some x) : x.pl ≠ a.l := fun z => (List.nodup_cons.mp D.nl).1 (List.mem_cons_of_mem _ (by rw [← z]; exact mem_of_map (f := fun p : GA => p.pl) h))
theorem DevAt.plB (D : DevAt K H a ks took g) {j : Nat} {x : GA} (h : a.gas[j]? = some x) : x.pl ≠ a.lb := fun z => (List.nodup_cons.mp (List.nodup_cons.mp D.nl).2).1 (by rw [← z]; exact mem_of_map (f := fun p : GA => p.pl) h)
theorem DevAt.npl (D : DevAt K H a ks took g) : (a.gas.map (·.pl)).Nodup := (List.nodup_cons.mp (List.nodup_cons.mp D.nl).2).2
theorem DevAt.setTook (D : DevAt K H a ks took g) {b : Bool} : DevAt K (L2.upd H a.d (.ins (cDevice K) a.dd (dvF ⟨a.l, b, a.lb⟩))) a ks b g := by
  have hl : a.l ≠ a.d := lst_ne_ins D.lst D.ob
  have hb : a.lb ≠ a.d := lst_ne_ins D.bg D.ob
  refine ⟨upd_same, by rw [upd_ne hl]; exact D.lst, by rw [upd_ne hb]; exact D.bg, fun j x k e1 e2 => ?_, fun i x e e1 e2 => ⟨?_, ?_⟩, D.len, D.glen, D.co, D.nw, D.ng, D.nl⟩
  · rw [upd_ne (Ne.symm (D.dW e1))]
    exact D.wk j x k e1 e2
  · rw [upd_ne (Ne.symm (D.dG e1))]
    exact (D.go i x e e1 e2).1
  · have t := (D.go i x e e1 e2).2
    refine t.stay (as := [a.d]) ((Kept.refl _ H).put (by simp)) (by simpa using lst_ne_ins t.lst D.ob) (fun b hb => ?_)
    have e : b = a.d := by simpa using hb
    rw [e]
    exact ⟨_, D.ob, rfl⟩
theorem DevAt.woken (D : DevAt K H a ks took g) {b : Addr} (hb : H b = none) : DevAt K (L2.upd (L2.upd H b (.lst [])) a.d (.ins (cDevice K) a.dd (dvF ⟨a.l, took, b⟩))) { a with lb := b } ks took { g with nb := g.G.length } := by
  have D1 : DevAt K (L2.upd H b (.lst [])) a ks took g := D.same (Same.new (Same.refl H) hb)
  have hl : a.l ≠ a.d := lst_ne_ins D.lst D.ob
  have bd : b ≠ a.d := Ne.symm (ne_of_none D.ob hb)
  have D2 : DevAt K (L2.upd (L2.upd H b (.lst [])) a.d (.ins (cDevice K) a.dd (dvF ⟨a.l, took, a.lb⟩))) a ks took g := D1.setTook
  have rd : ∀ {p : Addr} {o : HO}, p ≠ a.d → L2.upd H b (.lst []) p = some o → L2.upd (L2.upd H b (.lst [])) a.d (.ins (cDevice K) a.dd (dvF ⟨a.l, took, b⟩)) p = some o := fun hp h => by rw [upd_ne hp]; exact h
  have ed : a.gas.drop g.G.length = [] := by rw [← D.glen]; exact List.drop_length
  refine ⟨upd_same, rd hl D1.lst, ?_, fun j x k e1 e2 => rd (Ne.symm (D.dW e1)) (D1.wk j x k e1 e2), fun i x e e1 e2 => ⟨rd (Ne.symm (D.dG e1)) (D1.go i x e e1 e2).1, ?_⟩, D.len, D.glen, ⟨D.co.clen, D.co.on, D.co.off, D.co.mb, Nat.le_refl _⟩, D.nw, D.ng, ?_⟩
  · show L2.upd (L2.upd H b (.lst [])) a.d _ b = some (.lst ((a.gas.drop g.G.length).map _))
    rw [upd_ne bd, upd_same, ed]
    rfl
  · have t := (D1.go i x e e1 e2).2
    refine t.stay (as := [a.d]) ((Kept.refl _ _).put (by simp)) (by simpa using lst_ne_ins t.lst D1.ob) (fun b hb => ?_)
    have e : b = a.d := by simpa using hb
    rw [e]
    exact ⟨_, D1.ob, rfl⟩
  · have n1 := List.nodup_cons.mp D.nl
    have n2 := List.nodup_cons.mp n1.2
    refine List.nodup_cons.mpr ⟨fun z => ?_, List.nodup_cons.mpr ⟨fun z => ?_, n2.2⟩⟩
    · rcases List.mem_cons.mp z with z | z
      · exact (ne_of_none D.lst hb) z
      · exact n1.1 (List.mem_cons_of_mem _ z)
    · have z' : b ∈ a.gas.map (·.pl) := z
      obtain ⟨pr, hpr, e⟩ := List.mem_map.mp z'
      obtain ⟨i, hi, ei⟩ := List.mem_iff_getElem.mp hpr
      obtain ⟨_, _, _, h⟩ := D.getA (List.getElem?_eq_getElem hi)
      have h := h.lst
      rw [ei, e, hb] at h
      cases h
theorem goA_app {gas : List GA} {x : GA} {o : Option (Option Nat)} (h : ∀ i, o = some (some i) → i < gas.length) : goA (gas ++ [x]) o = goA gas o := by
  cases o with
  | none => rfl
  | some o =>
    cases o with
    | none => rfl
    | some i =>
      show ((gas ++ [x])[i]?).map _ = (gas[i]?).map _
      rw [List.getElem?_append_left (h i rfl)]
theorem goA_set {gas : List GA} {x y : GA} {i : Nat} {o : Option (Option Nat)} (h : gas[i]? = some x) (e : y.g = x.g) : goA (gas.set i y) o = goA gas o := by
  cases o with
  | none => rfl
  | some o =>
    cases o with
    | none => rfl
    | some j =>
      show ((gas.set i y)[j]?).map _ = (gas[j]?).map _
      by_cases z : j = i
      · subst z
        rw [gset_self h, h]
        show some y.g = some x.g
        rw [e]
      · rw [gset_ne z]
theorem cur_lt (D : DevAt K H a ks took g) {j i : Nat} {k : Wk} (h : ks[j]? = some k) (hc : g.cur[j]? = some (some i)) : i < a.gas.length := by
  obtain ⟨_, e, he, _⟩ := D.co.on j k i h hc
  rw [D.glen]
  exact (List.getElem?_eq_some_iff.mp he).1
theorem DevAt.started (D : DevAt K H a ks took g) {n : Nat} {x : Addr × Addr} {k : Wk} {p dp q : Addr} (hc : g.cur[n]? = some none) (hx : a.was[n]? = some x) (hk : ks[n]? = some k) (np : H p = none) (nq : H q = none) (pq : p ≠ q)
    (h1 : H' p = some (.ins (cGoing K) dp (ggF ⟨(n : Int), none, q⟩))) (h2 : H' q = some (.lst [])) (h3 : H' x.1 = some (.ins (cWork K) x.2 (woF (k.wo (some p))))) (h4 : H' a.lb = some (.lst (((a.gas.drop g.nb).map fun x => V.ref x.g) ++ [.ref p])))
    (kp : Kept [x.1, a.lb] H H') : DevAt K H' { a with gas := a.gas ++ [⟨p, dp, q, []⟩] } (ks.modify n Wk.start) took (g.start n) := by
  have co := D.co.start n
  have hx2 := D.wk n x k hx hk
  have nt : ∀ b ∈ [x.1, a.lb], ∃ u, H b = some u ∧ notTup u = true := fun b hb => by
    have e : b = x.1 ∨ b = a.lb := by simpa using hb
    rcases e with rfl | rfl
    · exact ⟨_, hx2, rfl⟩
    · exact ⟨_, D.bg, rfl⟩
  have kk : ∀ {b : Addr} {o : HO}, H b = some o → b ≠ x.1 → b ≠ a.lb → H' b = some o := fun h n1 n2 => kp _ _ h (by simp [n1, n2])
  rw [modify_set hk]
  rw [modify_set hk] at co
  rw [start_off hc] at co ⊢
  have ek : k.start.wo (some p) = k.wo (some p) := by
    unfold Wk.start
    split <;> rfl
  have ld : (a.gas ++ [⟨p, dp, q, []⟩] : List GA).drop g.nb = a.gas.drop g.nb ++ [⟨p, dp, q, []⟩] := by
    rw [List.drop_append_of_le_length (by rw [D.glen]; exact D.co.nbl)]
  refine ⟨kk D.ob (D.dW hx) (ins_ne_lst D.ob D.bg), kk D.lst (lst_ne_ins D.lst hx2) (Ne.symm D.lbne), ?_, fun j y k' e1 e2 => ?_, fun i y e e1 e2 => ?_, by show a.was.length = _; rw [List.length_set]; exact D.len, by simp [D.glen], co, D.nw, ?_, ?_⟩
  · show H' a.lb = some (.lst (((a.gas ++ [(⟨p, dp, q, []⟩ : GA)]).drop g.nb).map fun x => V.ref x.g))
    rw [ld, List.map_append]
    exact h4
  · show H' y.1 = some (.ins (cWork K) y.2 (woF (k'.wo (goA (a.gas ++ [⟨p, dp, q, []⟩]) (g.cur.set n (some g.G.length))[j]?))))
    by_cases hj : j = n
    · subst hj
      have e1' : a.was[j]? = some y := e1
      rw [hx] at e1'
      cases e1'
      rw [gset_self hk] at e2
      cases e2
      rw [gset_self hc, ← D.glen]
      show H' x.1 = some (.ins (cWork K) x.2 (woF (k.start.wo (((a.gas ++ [⟨p, dp, q, []⟩])[a.gas.length]?).map (·.g)))))
      rw [gend]
      show H' x.1 = some (.ins (cWork K) x.2 (woF (k.start.wo (some p))))
      rw [ek]
      exact h3
    · rw [gset_ne hj] at e2
      rw [gset_ne hj, goA_app (fun i hi => cur_lt D e2 hi)]
      have e3 := D.wk j y k' e1 e2
      exact kk e3 (fun z => hj (nd_at (f := fun p : Addr × Addr => p.1) D.nw e1 hx z)) (ins_ne_lst e3 D.bg)
  · by_cases hi : i < a.gas.length
    · have e1' : a.gas[i]? = some y := by
        have e1'' : (a.gas ++ [(⟨p, dp, q, []⟩ : GA)])[i]? = some y := e1
        rw [List.getElem?_append_left hi] at e1''
        exact e1''
      have e2' : g.G[i]? = some e := by
        have e2'' : (g.G ++ [(⟨n, none, []⟩ : Go)])[i]? = some e := e2
        rw [List.getElem?_append_left (by rw [← D.glen]; exact hi)] at e2''
        exact e2''
      obtain ⟨o1, o2⟩ := D.go i y e e1' e2'
      exact ⟨kk o1 (D.wG e1' hx) (ins_ne_lst o1 D.bg), o2.stay kp (by simp [lst_ne_ins o2.lst hx2, D.plB e1']) nt⟩
    · have e1'' : (a.gas ++ [(⟨p, dp, q, []⟩ : GA)])[i]? = some y := e1
      have ei : i = a.gas.length := by
        have := (List.getElem?_eq_some_iff.mp e1'').1
        rw [List.length_append] at this
        simp at this
        omega
      subst ei
      rw [gend] at e1''
      cases e1''
      have e2'' : (g.G ++ [(⟨n, none, []⟩ : Go)])[a.gas.length]? = some e := e2
      rw [D.glen, gend] at e2''
      cases e2''
      exact ⟨h1, h2, rfl, fun j t vs z => by simp at z⟩
  · show ((a.gas ++ [(⟨p, dp, q, []⟩ : GA)]).map (·.g)).Nodup
    rw [List.map_append]
    refine List.nodup_append.mpr ⟨D.ng, by simp, fun u hu b hb z => ?_⟩
    have eb : b = p := by simpa using hb
    subst eb
    subst z
    obtain ⟨pr, hpr, e⟩ := List.mem_map.mp hu
    obtain ⟨i, hi, ei⟩ := List.mem_iff_getElem.mp hpr
    obtain ⟨_, _, h, _⟩ := D.getA (List.getElem?_eq_getElem hi)
    rw [ei, e, np] at h
    cases h
  · have e : (a.l :: a.lb :: (a.gas ++ [(⟨p, dp, q, []⟩ : GA)]).map (·.pl)) = (a.l :: a.lb :: a.gas.map (·.pl)) ++ [q] := by simp
    show (a.l :: a.lb :: (a.gas ++ [(⟨p, dp, q, []⟩ : GA)]).map (·.pl)).Nodup
    rw [e]
    refine List.nodup_append.mpr ⟨D.nl, by simp, fun u hu b hb z => ?_⟩
    have eb : b = q := by simpa using hb
    subst eb
    subst z
    simp only [List.mem_cons] at hu
    rcases hu with rfl | rfl | hu
    · rw [D.lst] at nq; cases nq
    · rw [D.bg] at nq; cases nq
    · obtain ⟨pr, hpr, e⟩ := List.mem_map.mp hu
      obtain ⟨i, hi, ei⟩ := List.mem_iff_getElem.mp hpr
      obtain ⟨_, _, _, h⟩ := D.getA (List.getElem?_eq_getElem hi)
      have h := h.lst
      rw [ei, e, nq] at h
      cases h
theorem DevAt.onAt (D : DevAt K H a ks took g) {j : Nat} {k : Wk} (hk : ks[j]? = some k) (ho : k.on = true) : ∃ (i : Nat) (e : Go) (x : Addr × Addr) (y : GA), g.cur[j]? = some (some i) ∧ g.G[i]? = some e ∧ a.was[j]? = some x ∧ a.gas[i]? = some y ∧ e.n = j ∧ e.hand = k.hand ∧ (e.pu.length : Int) = k.laid ∧ k.laid < k.many ∧
    H x.1 = some (.ins (cWork K) x.2 (woF (k.wo (some y.g)))) ∧ H y.g = some (.ins (cGoing K) y.dg (ggF ⟨(j : Int), k.hand, y.pl⟩)) ∧ TupsAt H y.pl y.ps (e.pu.map puV) := by
  have hj : j < g.cur.length := by rw [D.co.clen]; exact (List.getElem?_eq_some_iff.mp hk).1
  have hc := List.getElem?_eq_getElem hj
  cases e : g.cur[j] with
  | none =>
    rw [e] at hc
    rw [(D.co.off j k hk hc).1] at ho
    cases ho
  | some i =>
    rw [e] at hc
    obtain ⟨_, e, e1, e2, e3, e4, e5⟩ := D.co.on j k i hk hc
    obtain ⟨x, x1, x2⟩ := D.get hk
    obtain ⟨y, y1, y2, y3⟩ := D.getG e1
    rw [hc] at x2
    have eg : goA a.gas (some (some i)) = some y.g := by
      show (a.gas[i]?).map _ = _
      rw [y1]
      rfl
    rw [eg] at x2
    rw [e2, e3] at y2
    exact ⟨i, e, x, y, hc, e1, x1, y1, e2, e3, e4, e5, x2, y2, y3⟩
theorem DevAt.fetched (D : DevAt K H a ks took g) {j i : Nat} {k : Wk} {e : Go} {y : GA} {p : Addr} {ws : List Int} {when : Int} (hk : ks[j]? = some k) (hn : k.hand = none) (hc : g.cur[j]? = some (some i)) (he : g.G[i]? = some e) (en : e.n = j) (hy : a.gas[i]? = some y)
    (f : FetchPost K H H' p y.g y.dg y.pl (j : Int) k ws) : DevAt K H' a (ks.set j (k.move ws).1) took (g.move j k when ws) := by
  have co := D.co.move (ws := ws) (when := when) hk hc
  obtain ⟨f1, f2, f3, f4⟩ := f
  obtain ⟨hy2, hy3⟩ := D.go i y e hy he
  have nt : ∀ b ∈ [y.g], ∃ u, H b = some u ∧ notTup u = true := fun b hb => by
    have e : b = y.g := by simpa using hb
    rw [e]
    exact ⟨_, hy2, rfl⟩
  have kk : ∀ {b : Addr} {o : HO}, H b = some o → b ≠ y.g → H' b = some o := fun h n1 => f4 _ _ h (by simp [n1])
  rw [move_eq hc he] at co ⊢
  unfold Wk.move at co ⊢
  rw [hn] at co ⊢
  dsimp only at co ⊢
  refine ⟨kk D.ob (D.dG hy), kk D.lst (lst_ne_ins D.lst hy2), kk D.bg (lst_ne_ins D.bg hy2), fun j' x k' e1 e2 => ?_, fun i' x e' e1 e2 => ?_, by rw [List.length_set]; exact D.len, by rw [List.length_set]; exact D.glen, co, D.nw, D.ng, D.nl⟩
  · have key : ∀ k0, ks[j']? = some k0 → k0.wo (goA a.gas g.cur[j']?) = k'.wo (goA a.gas g.cur[j']?) → H' x.1 = some (.ins (cWork K) x.2 (woF (k'.wo (goA a.gas g.cur[j']?)))) := fun k0 h0 hw => by
      rw [← hw]
      exact kk (D.wk j' x k0 e1 h0) (Ne.symm (D.wG hy e1))
    by_cases hj : j' = j
    · subst hj
      rw [gset_self hk] at e2
      cases e2
      exact key k hk rfl
    · rw [gset_ne hj] at e2
      exact key k' e2 rfl
  · by_cases hi : i' = i
    · subst hi
      rw [gset_self he] at e2
      cases e2
      rw [hy] at e1
      cases e1
      exact ⟨by rw [f3, en], hy3.stay f4 (by simpa using lst_ne_ins hy3.lst hy2) nt⟩
    · rw [gset_ne hi] at e2
      obtain ⟨o1, o2⟩ := D.go i' x e' e1 e2
      exact ⟨kk o1 (fun z => hi (nd_at (f := fun p : GA => p.g) D.ng e1 hy z)), o2.stay f4 (by simpa using lst_ne_ins o2.lst hy2) nt⟩
theorem DevAt.laid (D : DevAt K H a ks took g) {j i : Nat} {k : Wk} {e : Go} {x : Addr × Addr} {y : GA} {p t l : Addr} {ws : List Int} {when v : Int} {os : List V} (hk : ks[j]? = some k) (hn : k.hand = some v) (hc : g.cur[j]? = some (some i)) (he : g.G[i]? = some e) (en : e.n = j) (hx : a.was[j]? = some x) (hy : a.gas[i]? = some y)
    (hl : H l = some (.lst os)) (nl : l ∉ a.foot) (f : LayPost K H H' p t x.1 x.2 y.g y.dg y.pl l (j : Int) when k (y.ps.map V.ref) ws v) :
    DevAt K H' { a with gas := a.gas.set i { y with ps := y.ps ++ [t] } } (ks.set j (k.move ws).1) took (g.move j k when ws) := by
  have co := D.co.move (ws := ws) (when := when) hk hc
  obtain ⟨f1, f2, f3, f4, f5, f6, f7, f8, f9⟩ := f
  obtain ⟨hy2, hy3⟩ := D.go i y e hy he
  have hx2 := D.wk j x k hx hk
  have nt : ∀ b ∈ [x.1, y.g, y.pl, l], ∃ u, H b = some u ∧ notTup u = true := fun b hb => by
    simp only [List.mem_cons] at hb
    rcases hb with rfl | rfl | rfl | rfl | hb
    · exact ⟨_, hx2, rfl⟩
    · exact ⟨_, hy2, rfl⟩
    · exact ⟨_, hy3.lst, rfl⟩
    · exact ⟨_, hl, rfl⟩
    · cases hb
  have kk : ∀ {b : Addr} {o : HO}, H b = some o → b ∈ a.foot → b ≠ x.1 → b ≠ y.g → b ≠ y.pl → H' b = some o := fun h hf n1 n2 n3 => f9 _ _ h (by
    have n4 : _ ≠ l := fun z => nl (by rw [← z]; exact hf)
    simp [n1, n2, n3, n4])
  rw [move_eq hc he] at co ⊢
  unfold Wk.move at co ⊢
  rw [hn] at co ⊢
  dsimp only at co ⊢
  have eg : ∀ o, goA (a.gas.set i { y with ps := y.ps ++ [t] }) o = goA a.gas o := fun o => goA_set hy rfl
  refine ⟨kk D.ob DA.inD (D.dW hx) (D.dG hy) (ins_ne_lst D.ob hy3.lst), kk D.lst DA.inL (lst_ne_ins D.lst hx2) (lst_ne_ins D.lst hy2) (Ne.symm (D.plL hy)), ?_, fun j' z k' e1 e2 => ?_, fun i' z e' e1 e2 => ?_, by rw [List.length_set]; exact D.len, by rw [List.length_set, List.length_set]; exact D.glen, co, D.nw, ?_, ?_⟩
  · have e5 : ((a.gas.set i { y with ps := y.ps ++ [t] }).drop g.nb).map (fun x => V.ref x.g) = (a.gas.drop g.nb).map (fun x => V.ref x.g) := by
      rw [List.map_drop, List.map_drop, gas_ref hy]
    show H' a.lb = some (.lst (((a.gas.set i { y with ps := y.ps ++ [t] }).drop g.nb).map fun x => V.ref x.g))
    rw [e5]
    exact kk D.bg DA.inB (lst_ne_ins D.bg hx2) (lst_ne_ins D.bg hy2) (Ne.symm (D.plB hy))
  · show H' z.1 = some (.ins (cWork K) z.2 (woF (k'.wo (goA (a.gas.set i { y with ps := y.ps ++ [t] }) (if k.laid + 1 < k.many then g.cur else g.cur.set j none)[j']?))))
    rw [eg]
    by_cases hj : j' = j
    · subst hj
      rw [gset_self hk] at e2
      cases e2
      rw [hx] at e1
      cases e1
      have ego : goA a.gas (if k.laid + 1 < k.many then g.cur else g.cur.set j' none)[j']? = (if k.laid + 1 < k.many then some y.g else none) := by
        by_cases c : k.laid + 1 < k.many
        · rw [if_pos c, if_pos c, hc]
          show (a.gas[i]?).map _ = _
          rw [hy]
          rfl
        · rw [if_neg c, if_neg c, gset_self hc]
          rfl
      rw [ego]
      exact f7
    · rw [gset_ne hj] at e2
      have ec : (if k.laid + 1 < k.many then g.cur else g.cur.set j none)[j']? = g.cur[j']? := by
        by_cases c : k.laid + 1 < k.many
        · rw [if_pos c]
        · rw [if_neg c, gset_ne hj]
      rw [ec]
      have e3 := D.wk j' z k' e1 e2
      exact kk e3 (DA.inW e1) (fun u => hj (nd_at (f := fun p : Addr × Addr => p.1) D.nw e1 hx u)) (Ne.symm (D.wG hy e1)) (ins_ne_lst e3 hy3.lst)
  · by_cases hi : i' = i
    · subst hi
      rw [gset_self he] at e2
      cases e2
      have e1' : (a.gas.set i' { y with ps := y.ps ++ [t] })[i']? = some z := e1
      rw [gset_self hy] at e1'
      cases e1'
      refine ⟨by show H' y.g = some (.ins (cGoing K) y.dg (ggF ⟨(e.n : Int), none, y.pl⟩)); rw [f6, en], ?_⟩
      show TupsAt H' y.pl (y.ps ++ [t]) ((e.pu ++ [(when, (k.goal + k.laid) % ws.length)]).map puV)
      rw [List.map_append]
      refine tups_snoc hy3 (by rw [f5, List.map_append]; rfl) f4 (fun u us hu => f9 _ _ hu fun hb => ?_)
      obtain ⟨o, ho, ho2⟩ := nt u hb
      rw [hu] at ho
      cases ho
      cases ho2
    · rw [gset_ne hi] at e2
      have e1' : (a.gas.set i { y with ps := y.ps ++ [t] })[i']? = some z := e1
      rw [gset_ne hi] at e1'
      obtain ⟨o1, o2⟩ := D.go i' z e' e1' e2
      have npl : z.pl ≠ y.pl := fun u => hi (nd_at (f := fun p : GA => p.pl) D.npl e1' hy u)
      have nll : z.pl ≠ l := fun u => nl (by rw [← u]; exact DA.inP e1')
      exact ⟨kk o1 (DA.inG e1') (D.wG e1' hx) (fun u => hi (nd_at (f := fun p : GA => p.g) D.ng e1' hy u)) (ins_ne_lst o1 hy3.lst), o2.stay f9 (by simp [lst_ne_ins o2.lst hx2, lst_ne_ins o2.lst hy2, npl, nll]) nt⟩
  · show ((a.gas.set i { y with ps := y.ps ++ [t] }).map (·.g)).Nodup
    rw [gas_g hy]
    exact D.ng
  · show (a.l :: a.lb :: (a.gas.set i { y with ps := y.ps ++ [t] }).map (·.pl)).Nodup
    rw [gas_pl hy]
    exact D.nl
theorem foot_set {i : Nat} {y : GA} {t : Addr} (hy : a.gas[i]? = some y) : ({ a with gas := a.gas.set i { y with ps := y.ps ++ [t] } } : DA).foot = a.foot := by
  unfold DA.foot
  show a.d :: a.l :: a.lb :: (a.was.map (·.1) ++ ((a.gas.set i { y with ps := y.ps ++ [t] }).map (·.g) ++ (a.gas.set i { y with ps := y.ps ++ [t] }).map (·.pl))) = _
  rw [gas_g hy, gas_pl hy]
theorem foot_new {x : GA} {b : Addr} (h : b ∈ ({ a with gas := a.gas ++ [x] } : DA).foot) : b ∈ a.foot ∨ b = x.g ∨ b = x.pl := by
  unfold DA.foot at h ⊢
  simp only [List.mem_cons, List.mem_append, List.map_append, List.map_cons, List.map_nil, List.not_mem_nil, or_false] at h ⊢
  rcases h with h | h | h | h | (h | h) | (h | h)
  · exact .inl (.inl h)
  · exact .inl (.inr (.inl h))
  · exact .inl (.inr (.inr (.inl h)))
  · exact .inl (.inr (.inr (.inr (.inl h))))
  · exact .inl (.inr (.inr (.inr (.inr (.inl h)))))
  · exact .inr (.inl h)
  · exact .inl (.inr (.inr (.inr (.inr (.inr h)))))
  · exact .inr (.inr h)
end
end SB

set_option Elab.async false
set_option linter.all false
set_option maxRecDepth 100000
set_option maxHeartbeats 2000000
namespace SB
open PySem L2
section
variable {P : Program} {w : World} {K : PySem.W.Frag} {mg : Str → Option Value} {base : Heap}
variable {H H' : Hp} {a : DA} {ks : List Wk} {took : Bool} {g : GH}
theorem DevAt.onV (D : DevAt K H a ks took g) {j : Nat} {k : Wk} (hk : ks[j]? = some k) : (!decide (oA (goA a.gas g.cur[j]?) = V.non)) = k.on := by
  have hj : j < g.cur.length := by rw [D.co.clen]; exact (List.getElem?_eq_some_iff.mp hk).1
  have hc := List.getElem?_eq_getElem hj
  cases e : g.cur[j] with
  | none =>
    rw [e] at hc
    rw [hc, (D.co.off j k hk hc).1]
    rfl
  | some i =>
    rw [e] at hc
    obtain ⟨o, e, e1, _⟩ := D.co.on j k i hk hc
    obtain ⟨y, y1, _⟩ := D.getG e1
    have eg : goA a.gas (some (some i)) = some y.g := by
      show (a.gas[i]?).map _ = _
      rw [y1]
      rfl
    rw [hc, eg, o]
    rfl
def sp_Device_is_on (K : PySem.W.Frag) : Sp := fun vs H Q _ => ∃ (a : DA) (ks : List Wk) (took : Bool) (g : GH) (n : Int), vs = [.ref a.d, .int n] ∧ DevAt K H a ks took g ∧ 0 ≤ n ∧ Q (.bl (isOn ks n)) H
theorem ok_Device_is_on (T : T w K mg) : FnR P w K mg base CX0 1 (He.ma K (He.ga K "Device") "is_on") (sp_Device_is_on K) := by
  obtain ⟨fd, F⟩ := T.f_Device_is_on
  refine F.r sc_Device_is_on (fun _ _ _ _ _ _ us hl => match us, hl with | [_, _], _ => rfl) (fun vs H Q E h => ?_) (fun cdv A outer s H vs Q E hr h => ?_)
  · obtain ⟨_, _, _, _, _, rfl, _⟩ := h
    rfl
  · obtain ⟨a, ks, took, g, n, rfl, D, hn, q⟩ := h
    refine ⟨_, (pss_one (ps_ret (pe_and (pe_cmpR op_lt (pv 1) (pe_callB call_len_seq rfl T.u_len PySem.boot_len (pa_cons (pe_fld (pv 0) rfl) pa_nil)) (nomark _)) (pe_one (pe_cmp (pc_notN (pe_fld (pe_ix ix_list (pe_fld (pv 0) rfl) (pv 1) (fun _ _ => rfl)) rfl))))))), ?_⟩
    refine ⟨_, rfl, ?_⟩ -- number
    refine ⟨_, rfl, _, _, _, _, _, rfl, D.ob, T.cl_Device, T.n_Device_works, dv_works _, ?_⟩
    refine ⟨_, _, rfl, .inl (SqL.of D.lst), ?_⟩ -- len
    refine ⟨_, _, rfl, rfl, ?_⟩ -- number < len(self.works)
    refine ⟨_, rfl, ?_⟩
    rw [List.length_map, D.len]
    unfold isOn at q
    refine ite2 (fun c1 => ?_) (fun c1 => ?_)
    · have c2 : n < ks.length := of_decide_eq_true c1
      have e1 : ks[n.toNat]? = some ks[n.toNat] := List.getElem?_eq_getElem (by omega)
      rw [e1] at q
      obtain ⟨x, e2, e3⟩ := D.get e1
      refine ⟨_, rfl, _, _, _, _, _, rfl, D.ob, T.cl_Device, T.n_Device_works, dv_works _, ?_⟩
      refine ⟨_, rfl, ?_⟩ -- number
      refine ⟨_, _, _, _, rfl, rfl, SqL.of D.lst, at_ref hn e2, ?_⟩ -- self.works[number]
      refine ⟨_, _, _, _, _, rfl, e3, T.cl_Work, T.n_Work_going, wo_going _, ?_⟩
      have ev := D.onV e1
      show Q (.bl (!decide (oA (goA a.gas g.cur[n.toNat]?) = V.non))) H
      rw [ev]
      exact q
    · have c2 : ¬ n < ks.length := fun z => c1 (decide_eq_true z)
      have e1 : ks[n.toNat]? = none := List.getElem?_eq_none (by omega)
      rw [e1] at q
      exact q
def sp_Device_start (K : PySem.W.Frag) : Sp := fun vs H Q _ => ∃ (a : DA) (ks : List Wk) (took : Bool) (g : GH) (n : Int), vs = [.ref a.d, .int n] ∧ DevAt K H a ks took g ∧ 0 ≤ n ∧ g.G.length < g.nb + 1000 ∧
  ∀ H' a', DLe a a' → DevAt K H' a' (ks.modify n.toNat Wk.start) took (g.start n.toNat) → Step a.foot H a'.foot H' → Q .non H'
theorem ok_Device_start (T : T w K mg) : FnR P w K mg base CX0 3 (He.ma K (He.ga K "Device") "start") (sp_Device_start K) := by
  have F_Going_init : FnR P w K mg base CX0 1 _ _ := ok_Going_init T
  obtain ⟨fd, F⟩ := T.f_Device_start
  refine F.r sc_Device_start (fun _ _ _ _ _ _ us hl => match us, hl with | [_, _], _ => rfl) (fun vs H Q E h => ?_) (fun cdv A outer s H vs Q E hr h => ?_)
  · obtain ⟨_, _, _, _, _, rfl, _⟩ := h
    rfl
  · obtain ⟨a, ks, took, g, n, rfl, D, hn, hb, q⟩ := h
    refine ⟨_, (pss_cons (ps_if (pt_cmpR op_ge (pv 1) (pe_callB call_len_seq rfl T.u_len PySem.boot_len (pa_cons (pe_fld (pv 0) rfl) pa_nil)) (nomark _))
      (pss_one ps_retN)
      pss_nil)
      (pss_cons (ps_set (i := 2) sc_Device_start.nd rfl (Or.inl rfl) (pe_ix ix_list (pe_fld (pv 0) rfl) (pv 1) (fun _ _ => rfl)))
      (pss_one (ps_if (pt_cmp (pc_isN (pe_fld (pv 2) rfl)))
      (pss_cons (ps_fld (pv 2) (pe_mkR T.mk_Going F_Going_init (hr.mono (by decide)) rfl T.g_Going (pa_cons (pv 1) pa_nil)) rfl)
      (pss_one (ps_expr (pe_bm PySem.F.plainAttrs_list PySem.F.slot_list_append PySem.F.type_list_append mt_append (pe_fld (pv 0) rfl) (pa_cons (pe_fld (pv 2) rfl) pa_nil)))))
      pss_nil)))), ?_⟩
    refine ⟨_, rfl, ?_⟩ -- number
    refine ⟨_, rfl, _, _, _, _, _, rfl, D.ob, T.cl_Device, T.n_Device_works, dv_works _, ?_⟩
    refine ⟨_, _, rfl, .inl (SqL.of D.lst), ?_⟩ -- len
    refine ⟨_, _, rfl, rfl, ?_⟩ -- number >= len(self.works)
    refine ⟨_, rfl, ?_⟩ -- test
    rw [List.length_map, D.len]
    refine ite2 (fun c1 => ?_) (fun c1 => ?_)
    · have c2 : n ≥ ks.length := of_decide_eq_true c1
      have e1 : g.cur[n.toNat]? = none := List.getElem?_eq_none (by rw [D.co.clen]; omega)
      refine q H a (DLe.refl _) ?_ (Step.refl _ _)
      rw [start_none e1, modify_out (by omega)]
      exact D
    · have c2 : ¬ n ≥ ks.length := fun z => c1 (decide_eq_true z)
      have e1 : ks[n.toNat]? = some ks[n.toNat] := List.getElem?_eq_getElem (by omega)
      generalize ek : ks[n.toNat] = k at e1
      obtain ⟨x, e2, e3⟩ := D.get e1
      refine ⟨_, rfl, _, _, _, _, _, rfl, D.ob, T.cl_Device, T.n_Device_works, dv_works _, ?_⟩
      refine ⟨_, rfl, ?_⟩ -- number
      refine ⟨_, _, _, _, rfl, rfl, SqL.of D.lst, at_ref hn e2, ?_⟩ -- self.works[number]
      refine ⟨_, rfl, _, _, _, _, _, rfl, e3, T.cl_Work, T.n_Work_going, wo_going _, ?_⟩
      refine ⟨_, rfl, ?_⟩ -- test
      have hj : n.toNat < g.cur.length := by rw [D.co.clen]; omega
      have hc := List.getElem?_eq_getElem hj
      cases eo : g.cur[n.toNat] with
      | some i =>
        rw [eo] at hc
        obtain ⟨o, e, e4, _⟩ := D.co.on n.toNat k i e1 hc
        obtain ⟨y, y1, _⟩ := D.getG e4
        have eg : goA a.gas (some (some i)) = some y.g := by
          show (a.gas[i]?).map _ = _
          rw [y1]
          rfl
        have ev : (k.wo (goA a.gas g.cur[n.toNat]?)).going = some y.g := by rw [hc]; exact eg
        rw [ev]
        refine iteF ?_
        refine q H a (DLe.refl _) ?_ (Step.refl _ _)
        rw [start_on hc, D.co.start_same (by rw [hc]; simp)]
        exact D
      | none =>
        rw [eo] at hc
        have ev : (k.wo (goA a.gas g.cur[n.toNat]?)).going = none := by rw [hc]; rfl
        rw [ev]
        rw [hc] at e3
        refine iteT ?_
        refine ⟨_, rfl, ?_⟩ -- number
        intro p dp np ndp ne
        have s1 : Same H (upd (upd H dp (.own p)) p (.ins (cGoing K) dp [])) := fun b o e => by
          rw [upd_ne (ne_of_none e np), upd_ne (ne_of_none e ndp)]
          exact e
        refine ⟨p, dp, n, rfl, upd_same, fun H2 r hr1 hr2 hp2 k2 => ⟨rfl, ?_⟩⟩ -- Going(number)
        have s2 : Same H H2 := fun b o e => k2 b o (s1 b o e) (by simpa using ne_of_none e np)
        have nr : H r = none := Same.free s1 hr1
        have rp : p ≠ r := fun z => by rw [← z, upd_same] at hr1; cases hr1
        have xp : x.1 ≠ p := ne_of_none e3 np
        have xr : x.1 ≠ r := ne_of_none e3 nr
        refine stf (s2 _ _ e3) T.cl_Work T.n_Work_going (wo_len _) (wo_put_goingS _ _) ?_ -- work.going = Going(number)
        generalize e6 : upd H2 x.1 _ = H3
        have hx3 : H3 x.1 = some (.ins (cWork K) x.2 (woF (k.wo (some p)))) := by rw [← e6]; exact upd_same
        have hd3 : H3 a.d = some (.ins (cDevice K) a.dd (dvF ⟨a.l, took, a.lb⟩)) := by rw [← e6, upd_ne (D.dW e2)]; exact s2 _ _ D.ob
        have hlb3 : H3 a.lb = some (.lst ((a.gas.drop g.nb).map fun x => V.ref x.g)) := by rw [← e6, upd_ne (lst_ne_ins D.bg e3)]; exact s2 _ _ D.bg
        have hp3 : H3 p = some (.ins (cGoing K) dp (ggF ⟨n, none, r⟩)) := by rw [← e6, upd_ne (Ne.symm xp)]; exact hp2
        have hr3 : H3 r = some (.lst []) := by rw [← e6, upd_ne (Ne.symm xr)]; exact hr2
        have k3 : Kept [x.1, a.lb] H H3 := by rw [← e6]; exact (Kept.same s2).put (by simp)
        refine ⟨_, rfl, _, _, _, _, _, rfl, hd3, T.cl_Device, T.n_Device_begun, dv_begun _, ?_⟩
        refine ⟨.inl ⟨rfl, _, SqL.of hlb3⟩, ?_⟩
        refine ⟨_, rfl, _, _, _, _, _, rfl, hx3, T.cl_Work, T.n_Work_going, wo_going _, ?_⟩
        refine ⟨_, _, _, rfl, rfl, hlb3, ?_, ?_⟩ -- append
        · rw [List.length_map, List.length_drop, D.glen]
          have := D.co.nbl
          show g.G.length - g.nb < 16777216
          omega
        · have lbx : a.lb ≠ x.1 := lst_ne_ins D.bg e3
          have lbp : a.lb ≠ p := ne_of_none D.bg np
          have lbr : a.lb ≠ r := ne_of_none D.bg nr
          have en : (n.toNat : Int) = n := by omega
          refine q _ { a with gas := a.gas ++ [⟨p, dp, r, []⟩] } ⟨rfl, [p], by simp⟩ (D.started (n := n.toNat) hc e2 e1 np nr rp ?_ ?_ ?_ upd_same (k3.put (by simp))) ⟨?_, fun b hb => ?_, fun b h => Same.free s2 (by have := upd_none h; rw [← e6] at this; exact upd_none this)⟩
          · rw [upd_ne (Ne.symm lbp), en]; exact hp3
          · rw [upd_ne (Ne.symm lbr)]; exact hr3
          · rw [upd_ne (Ne.symm lbx)]; exact hx3
          · refine (k3.put (by simp)).mono (fun z hz => ?_)
            have e : z = x.1 ∨ z = a.lb := by simpa using hz
            rcases e with rfl | rfl
            · exact DA.inW e2
            · exact DA.inB
          · rcases foot_new hb with h | h | h
            · exact .inl h
            · exact .inr (by rw [h]; exact np)
            · exact .inr (by rw [h]; exact nr)
def startAll (ks : List Wk) (ns : List Int) : List Wk := ns.foldl (fun ks n => ks.modify n.toNat Wk.start) ks
def GH.startAll (g : GH) (ns : List Int) : GH := ns.foldl (fun g n => g.start n.toNat) g
theorem GH.start_len {g : GH} {n : Nat} : (g.start n).G.length ≤ g.G.length + 1 ∧ (g.start n).nb = g.nb := by
  unfold GH.start
  split
  · simp
  · simp
theorem GH.startAll_len : ∀ {ns : List Int} {g : GH}, (g.startAll ns).G.length ≤ g.G.length + ns.length ∧ (g.startAll ns).nb = g.nb
  | [], g => ⟨Nat.le_refl _, rfl⟩
  | n :: r, g => by
    have h1 := GH.start_len (g := g) (n := n.toNat)
    have h2 := GH.startAll_len (ns := r) (g := g.start n.toNat)
    show ((g.start n.toNat).startAll r).G.length ≤ g.G.length + (r.length + 1) ∧ ((g.start n.toNat).startAll r).nb = g.nb
    omega
def sp_Device_wake (K : PySem.W.Frag) : Sp := fun vs H Q _ => ∃ (a : DA) (ks : List Wk) (took : Bool) (g : GH) (al : Addr) (ns : List Int), vs = [.ref a.d, .ref al] ∧ DevAt K H a ks took g ∧ H al = some (.lst (ns.map V.int)) ∧ al ∉ a.foot ∧ ns.length ≤ 8 ∧ (∀ n ∈ ns, 0 ≤ n) ∧
  ∀ H' a', DLe a a' → DevAt K H' a' (startAll ks ns) took (({ g with nb := g.G.length } : GH).startAll ns) → Step a.foot H a'.foot H' → Q .non H'
theorem ok_Device_wake (T : T w K mg) : FnR P w K mg base CX0 4 (He.ma K (He.ga K "Device") "wake") (sp_Device_wake K) := by
  have F_Device_start : FnR P w K mg base CX0 3 _ _ := ok_Device_start T
  obtain ⟨fd, F⟩ := T.f_Device_wake
  refine F.r sc_Device_wake (fun _ _ _ _ _ _ us hl => match us, hl with | [_, _], _ => rfl) (fun vs H Q E h => ?_) (fun cdv A outer s H vs Q E hr h => ?_)
  · obtain ⟨_, _, _, _, _, _, rfl, _⟩ := h
    rfl
  · obtain ⟨a, ks, took, g, al, ns, rfl, D, hal, nal, h8, hn, q⟩ := h
    refine ⟨_, (pss_cons (ps_fld (pv 0) (pe_lst pa_nil) rfl)
      (pss_one (ps_for PassesOwn.never rfl (pi_list (pv 1)) (pg_name (i := 2) sc_Device_wake.nd rfl (Or.inl rfl))
      (pss_one (ps_expr (pe_mthR (pv 0) T.cl_Device T.m_Device_start F_Device_start (hr.mono (by decide)) (pa_cons (pv 2) pa_nil))))))), ?_⟩
    refine ⟨by show 0 ≤ sizeLine; decide, fun b hb => ?_⟩
    have bd : a.d ≠ b := ne_of_none D.ob hb
    refine stf (by rw [upd_ne bd]; exact D.ob) T.cl_Device T.n_Device_begun (dv_len _) (dv_put_begun _ _) ?_
    have ab : al ≠ b := ne_of_none hal hb
    have ad : al ≠ a.d := fun z => nal (by rw [z]; exact DA.inD)
    generalize e6 : upd (upd H b (.lst [])) a.d _ = H1
    have D1 : DevAt K H1 { a with lb := b } ks took { g with nb := g.G.length } := by rw [← e6]; exact D.woken hb
    have s1 : Step a.foot H ({ a with lb := b } : DA).foot H1 := by
      rw [← e6]
      refine ⟨((Kept.refl _ H).new hb).put DA.inD, fun z hz => ?_, fun z h => upd_none (upd_none h)⟩
      unfold DA.foot at hz ⊢
      simp only [List.mem_cons] at hz ⊢
      rcases hz with h | h | h | h
      · exact .inl (.inl h)
      · exact .inl (.inr (.inl h))
      · exact .inr (by rw [h]; exact hb)
      · exact .inl (.inr (.inr (.inr h)))
    have hal1 : H1 al = some (.lst (ns.map V.int)) := by rw [← e6, upd_ne ad, upd_ne ab]; exact hal
    have nal1 : al ∉ ({ a with lb := b } : DA).foot := s1.apart hal nal
    refine ⟨_, rfl, al, rfl, ⟨_, SqL.of hal1⟩, for_list (K := K) (a := al) (xs := ns.map V.int) (fun i σ H2 => ∃ v2 a2, σ = [some (.ref a.d), some (.ref al), v2] ∧ DLe a a2 ∧ DevAt K H2 a2 (startAll ks (ns.take i)) took (({ g with nb := g.G.length } : GH).startAll (ns.take i)) ∧ Step a.foot H a2.foot H2 ∧ H2 al = some (.lst (ns.map V.int)))
      ⟨none, { a with lb := b }, rfl, ⟨rfl, [], by simp⟩, D1, s1, hal1⟩ (fun i σ H2 _ ⟨_, _, _, _, _, _, h⟩ => SqL.of h) ?_ ?_⟩
    · rintro i x σ H2 hx ⟨v2, a2, rfl, ad2, D2, s2, hal2⟩
      rw [List.getElem?_map] at hx
      cases ht : ns[i]? with
      | none => rw [ht] at hx; cases hx
      | some n =>
        rw [ht] at hx
        cases hx
        have hn0 := hn n (List.mem_of_getElem? ht)
        refine ⟨_, rfl, ?_⟩
        refine ⟨_, _, _, rfl, by rw [← ad2.d]; exact D2.ob, dv_no_start _, ?_⟩
        refine ⟨_, rfl, ?_⟩
        have et : ns.take (i + 1) = ns.take i ++ [n] := by
          rw [List.take_add_one, ht]
          rfl
        have hl := GH.startAll_len (ns := ns.take i) (g := ({ g with nb := g.G.length } : GH))
        have hlt : (ns.take i).length ≤ 8 := by rw [List.length_take]; omega
        have hg : (({ g with nb := g.G.length } : GH)).G.length = g.G.length := rfl
        have hnb : (({ g with nb := g.G.length } : GH)).nb = g.G.length := rfl
        refine ⟨a2, _, _, _, n, by rw [ad2.d], D2, hn0, by rw [hl.2, hnb]; rw [hg] at hl; omega, fun H3 a3 ad3 D3 s3 => ?_⟩
        refine ⟨_, a3, rfl, ad2.trans ad3, ?_, s2.trans s3, ?_⟩
        · rw [et]
          unfold startAll GH.startAll
          rw [List.foldl_append, List.foldl_append]
          exact D3
        · exact s3.kp _ _ hal2 (s2.apart hal nal)
    · rintro σ H2 ⟨v2, a2, rfl, ad2, D2, s2, _⟩
      rw [List.length_map, List.take_length] at D2
      exact q H2 a2 ad2 D2 s2
def optN : Option Nat → V
  | none => .non
  | some j => .int (j : Int)
def sp_Device_taker (K : PySem.W.Frag) : Sp := fun vs H Q _ => ∃ (a : DA) (m : Addr) (ks : List Wk) (took wanted : Bool) (g : GH) (ms : List Bool), vs = [.ref a.d, .bl wanted, .ref m] ∧ DevAt K H a ks took g ∧ H m = some (.lst (ms.map V.bl)) ∧ (∀ k ∈ ks, WkOk ms.length k) ∧
  ∀ H', Same H H' → Q (optN (ks.findIdx? (takes ms wanted took))) H'
theorem may_eq {k : Wk} {o : Option Addr} {b c : Bool} : mayK (k.wo o).greed b c = k.may b c := rfl
theorem ok_Device_taker (T : T w K mg) : FnR P w K mg base CX0 2 (He.ma K (He.ga K "Device") "taker") (sp_Device_taker K) := by
  have F_Device_is_on : FnR P w K mg base CX0 1 _ _ := ok_Device_is_on T
  have F_Work_held_off : FnR P w K mg base CX0 1 _ _ := ok_Work_held_off T
  have F_Work_may_take : FnR P w K mg base CX0 1 _ _ := ok_Work_may_take T
  obtain ⟨fd, F⟩ := T.f_Device_taker
  refine F.r sc_Device_taker (fun _ _ _ _ _ _ us hl => match us, hl with | [_, _, _], _ => rfl) (fun vs H Q E h => ?_) (fun cdv A outer s H vs Q E hr h => ?_)
  · obtain ⟨_, _, _, _, _, _, _, rfl, _⟩ := h
    rfl
  · obtain ⟨a, m, ks, took, wanted, g, ms, rfl, D, hm, hok, q⟩ := h
    refine ⟨_, (pss_cons (ps_for PassesOwn.never rfl (pi_enum rfl T.u_enumerate (pa_cons (pe_fld (pv 0) rfl) pa_nil)) (pg_tup rfl (pgs_cons (pg_name (i := 3) sc_Device_taker.nd rfl (Or.inl rfl)) (pgs_cons (pg_name (i := 4) sc_Device_taker.nd rfl (Or.inl rfl)) pgs_nil)))
      (pss_one (ps_if (PW.pt (pw_and (pt_val (pe_mthR (pv 0) T.cl_Device T.m_Device_is_on F_Device_is_on (hr.mono (by decide)) (pa_cons (pv 3) pa_nil))) (pw_and (pt_not (pt_val (pe_mthR (pv 4) T.cl_Work T.m_Work_held_off F_Work_held_off (hr.mono (by decide)) (pa_cons (pv 2) pa_nil)))) (pw_and1 (pt_val (pe_mthR (pv 4) T.cl_Work T.m_Work_may_take F_Work_may_take (hr.mono (by decide)) (pa_cons (pv 1) (pa_cons (pe_fld (pv 0) rfl) pa_nil))))))))
      (pss_one (ps_ret (pv 3)))
      pss_nil)))
      (pss_one (ps_ret pe_non))), ?_⟩
    refine ⟨_, rfl, _, _, _, _, _, rfl, D.ob, T.cl_Device, T.n_Device_works, dv_works _, ?_⟩
    refine ⟨a.l, a.was.map (fun p => V.ref p.1), rfl, SqL.of D.lst, for_it walk_enum (fun i σ H2 => ∃ v3 v4, σ = [some (.ref a.d), some (.bl wanted), some (.ref m), v3, v4] ∧ Same H H2 ∧ ∀ j k, j < i → ks[j]? = some k → takes ms wanted took k = false)
      ⟨none, none, rfl, Same.refl H, fun j k h _ => absurd h (by omega)⟩ (fun i σ H2 _ ⟨_, _, _, s2, _⟩ => SqL.of (s2 _ _ D.lst)) ?_ ?_⟩
    · rintro i x σ H2 H3 hi ⟨v3, v4, rfl, s2, hno⟩ ⟨t, y, z, rfl, ht, rfl, e1, e2⟩
      cases e1
      rw [List.length_map] at hi
      obtain ⟨k, hk⟩ : ∃ k, ks[i]? = some k := ⟨_, List.getElem?_eq_getElem (by rw [← D.len]; exact hi)⟩
      obtain ⟨x, e3, e4⟩ := D.get hk
      have e2 : (a.was.map fun p => V.ref p.1)[i]? = some z := e2
      rw [List.getElem?_map, e3] at e2
      cases e2
      have s3 : Same H (upd H2 t (.tup [.int (i : Int), .ref x.1])) := s2.trans (Same.new (Same.refl H2) ht)
      have D3 := D.same s3
      have hk3 := s3 _ _ e4
      have okk := hok k (List.mem_of_getElem? hk)
      refine ⟨t, _, rfl, .inl (.inl upd_same), rfl, _, _, rfl, _, _, rfl, rfl, ?_⟩
      refine ⟨_, rfl, _, _, _, rfl, D3.ob, dv_no_is_on _, ?_⟩
      refine ⟨_, rfl, ?_⟩ -- number
      refine ⟨a, ks, took, g, (i : Int), rfl, D3, by omega, ?_⟩
      refine ⟨_, rfl, ?_⟩ -- test
      have eon : isOn ks (i : Int) = k.on := by
        unfold isOn
        rw [show ((i : Int)).toNat = i from by omega, hk]
      rw [eon]
      have fin : takes ms wanted took k = false → ∃ v3 v4, (([some (.ref a.d), some (.bl wanted), some (.ref m), v3, v4] : L2.St).set 3 (some (.int (i : Int)))).set 4 (some (.ref x.1)) = [some (.ref a.d), some (.bl wanted), some (.ref m), v3, v4] ∧ Same H (upd H2 t (.tup [.int (i : Int), .ref x.1])) ∧ ∀ j k, j < i + 1 → ks[j]? = some k → takes ms wanted took k = false := fun hf =>
        ⟨_, _, rfl, s3, fun j k' hj hk' => by
          by_cases z : j = i
          · subst z
            rw [hk] at hk'
            cases hk'
            exact hf
          · exact hno j k' (by omega) hk'⟩
      cases hon : k.on with
      | false =>
        refine iteF (iteF ?_)
        exact fin (by unfold takes; rw [hon]; rfl)
      | true =>
        obtain ⟨i', e', x', y', c1, c2, c3, c4, c5, c6, c7, c8, c9, c10, c11⟩ := D3.onAt hk hon
        rw [e3] at c3
        cases c3
        refine iteT ?_
        refine ⟨_, rfl, ?_⟩ -- work
        refine ⟨_, _, _, rfl, hk3, wo_no_held_off _, ?_⟩
        refine ⟨_, rfl, ?_⟩ -- marks
        refine ⟨x.1, x.2, m, y'.g, y'.dg, y'.pl, k, _, _, ms, rfl, c9, c10, c11.lst, by rw [List.length_map, c11.len, List.length_map]; exact c7, s3 _ _ hm, okk.1, okk.2.1, ?_⟩
        refine ⟨_, rfl, ?_⟩ -- test
        cases hh : k.held ms with
        | true =>
          refine iteF (iteF ?_)
          exact fin (by unfold takes; rw [hon, hh]; rfl)
        | false =>
          refine iteT ?_
          refine ⟨_, rfl, ?_⟩ -- work
          refine ⟨_, _, _, rfl, hk3, wo_no_may_take _, ?_⟩
          refine ⟨_, rfl, ?_⟩ -- wanted
          refine ⟨_, rfl, _, _, _, _, _, rfl, D3.ob, T.cl_Device, T.n_Device_took, dv_took _, ?_⟩
          refine ⟨x.1, x.2, _, wanted, took, rfl, hk3, ?_⟩
          refine ⟨_, rfl, ?_⟩ -- test
          rw [may_eq]
          cases hy : k.may wanted took with
          | false =>
            refine iteF ?_
            exact fin (by unfold takes; rw [hon, hh, hy]; rfl)
          | true =>
            refine iteT ?_
            refine ⟨_, rfl, ?_⟩
            have ef : ks.findIdx? (takes ms wanted took) = some i := by
              have hi2 : i < ks.length := by rw [← D.len]; exact hi
              refine List.findIdx?_eq_some_iff_getElem.mpr ⟨hi2, ?_, fun j hj => ?_⟩
              · have ek : ks[i] = k := by rw [List.getElem?_eq_getElem hi2] at hk; exact Option.some.inj hk
                rw [ek]
                unfold takes
                rw [hon, hh, hy]
                rfl
              · have hj2 : j < ks.length := by omega
                have := hno j _ hj (List.getElem?_eq_getElem hj2)
                simp [this]
            rw [ef] at q
            exact q _ s3
    · rintro σ H2 ⟨v3, v4, rfl, s2, hno⟩
      rw [List.length_map] at hno
      have ef : ks.findIdx? (takes ms wanted took) = none := by
        refine List.findIdx?_eq_none_iff.mpr fun x hx => ?_
        obtain ⟨j, hj, e⟩ := List.mem_iff_getElem.mp hx
        exact hno j x (by rw [D.len]; exact hj) (by rw [List.getElem?_eq_getElem hj, e])
      rw [ef] at q
      exact q _ s2
def Told (H H' : Hp) (v : V) : Option (Int × Str × Int × Int) → Prop
  | none => v = .non
  | some (j, z, a, x) => ∃ p, v = .ref p ∧ H p = none ∧ H' p = some (.tup [.int j, .str z, .int a, .int x])
def sp_Device_move (K : PySem.W.Frag) : Sp := fun vs H Q _ => ∃ (a : DA) (m lw : Addr) (ks : List Wk) (took wanted : Bool) (g : GH) (ms : List Bool) (ws : List Int) (when : Int), vs = [.ref a.d, .int when, .bl wanted, .ref m, .ref lw] ∧ DevAt K H a ks took g ∧
  H m = some (.lst (ms.map V.bl)) ∧ H lw = some (.lst (ws.map V.int)) ∧ 0 < ws.length ∧ lw ∉ a.foot ∧ (∀ k ∈ ks, WkOk ms.length k) ∧ g.G.length < g.nb + 1000 ∧
  ∀ H' a' v, DLe a a' → DevAt K H' a' (devMove ks took wanted ms ws).1 (devMove ks took wanted ms ws).2.1 (devG ks took wanted ms ws when g) → H' lw = some (.lst ((devMove ks took wanted ms ws).2.2.1.map V.int)) → Stp [lw] a.foot H a'.foot H' → Told H H' v (devMove ks took wanted ms ws).2.2.2 → Q v H'
theorem GH.move_len {g : GH} {j : Nat} {k : Wk} {when : Int} {ws : List Int} : (g.move j k when ws).G.length = g.G.length ∧ (g.move j k when ws).nb = g.nb := by
  unfold GH.move
  split
  · split
    · split <;> simp
    · simp
  · simp
theorem ok_Device_move (T : T w K mg) : FnR P w K mg base CX0 4 (He.ma K (He.ga K "Device") "move") (sp_Device_move K) := by
  have F_Device_taker : FnR P w K mg base CX0 2 _ _ := ok_Device_taker T
  have F_Device_start : FnR P w K mg base CX0 3 _ _ := ok_Device_start T
  have F_Work_move : FnR P w K mg base CX0 2 _ _ := ok_Work_move T
  obtain ⟨fd, F⟩ := T.f_Device_move
  refine F.r sc_Device_move (fun _ _ _ _ _ _ us hl => match us, hl with | [_, _, _, _, _], _ => rfl) (fun vs H Q E h => ?_) (fun cdv A outer s H vs Q E hr h => ?_)
  · obtain ⟨_, _, _, _, _, _, _, _, _, _, rfl, _⟩ := h
    rfl
  · obtain ⟨a, m, lw, ks, took, wanted, g, ms, ws, when, rfl, D, hm, hlw, hw0, nl, hok, hgl, q⟩ := h
    refine ⟨_, (pss_cons (ps_set (i := 5) sc_Device_move.nd rfl (Or.inl rfl) (pe_mthR (pv 0) T.cl_Device T.m_Device_taker F_Device_taker (hr.mono (by decide)) (pa_cons (pv 2) (pa_cons (pv 3) pa_nil))))
      (pss_cons (ps_fld (pv 0) (pe_cmp (pc_notN (pv 5))) rfl)
      (pss_cons (ps_if (pt_cmp (pc_isN (pv 5)))
      (pss_one (ps_ret pe_non))
      pss_nil)
      (pss_cons (ps_set (i := 6) sc_Device_move.nd rfl (Or.inl rfl) (pe_ix ix_list (pe_fld (pv 0) rfl) (pv 5) (fun _ _ => rfl)))
      (pss_cons (ps_asg (pe_mthR (pv 6) T.cl_Work T.m_Work_move F_Work_move (hr.mono (by decide)) (pa_cons (pv 1) (pa_cons (pv 4) pa_nil))) (pg_tup rfl (pgs_cons (pg_name (i := 7) sc_Device_move.nd rfl (Or.inl rfl)) (pgs_cons (pg_name (i := 8) sc_Device_move.nd rfl (Or.inl rfl)) (pgs_cons (pg_name (i := 9) sc_Device_move.nd rfl (Or.inl rfl)) pgs_nil)))))
      (pss_cons (ps_if (PW.pt (pw_and (pt_cmp (pc_isN (pe_fld (pv 6) rfl))) (pw_and1 (pt_cmp (pc_notN (pe_fld (pv 6) rfl))))))
      (pss_one (ps_expr (pe_mthR (pv 0) T.cl_Device T.m_Device_start F_Device_start (hr.mono (by decide)) (pa_cons (pe_fld (pv 6) rfl) pa_nil))))
      pss_nil)
      (pss_one (ps_ret (pe_tup (pa_cons (pv 5) (pa_cons (pv 7) (pa_cons (pv 8) (pa_cons (pv 9) pa_nil))))))))))))), ?_⟩
    refine ⟨_, rfl, ?_⟩ -- self
    refine ⟨_, _, _, rfl, D.ob, dv_no_taker _, ?_⟩
    refine ⟨_, rfl, ?_⟩ -- wanted
    refine ⟨_, rfl, ?_⟩ -- marks
    refine ⟨a, m, ks, took, wanted, g, ms, rfl, D, hm, hok, fun H1 s1 => ?_⟩ -- self.taker(wanted, marks)
    have D1 := D.same s1
    have lwd : lw ≠ a.d := fun z => nl (by rw [z]; exact DA.inD)
    refine ⟨_, rfl, ?_⟩ -- number
    unfold devMove devG at q
    have inF : ∀ {b : Addr}, b ∈ a.foot → b ∈ lw :: a.foot := fun h => List.mem_cons_of_mem _ h
    cases ej : ks.findIdx? (takes ms wanted took) with
    | none =>
      rw [ej] at q
      refine stf D1.ob T.cl_Device T.n_Device_took (dv_len _) (dv_put_took _ _) ?_ -- self.took = number is not None
      refine ⟨_, rfl, ?_⟩ -- number
      refine ⟨_, rfl, ?_⟩ -- test
      refine iteT ?_
      exact q _ a _ (DLe.refl _) D1.setTook (by rw [upd_ne lwd]; exact s1 _ _ hlw) (Stp.of ((Kept.same s1).put (inF DA.inD)) (fun b h => Same.free s1 (upd_none h))) rfl
    | some j =>
      obtain ⟨k, hk⟩ : ∃ k, ks[j]? = some k := by
        obtain ⟨hj, _⟩ := List.findIdx?_eq_some_iff_getElem.mp ej
        exact ⟨_, List.getElem?_eq_getElem hj⟩
      have hon : k.on = true := by
        obtain ⟨hj, ht, _⟩ := List.findIdx?_eq_some_iff_getElem.mp ej
        rw [List.getElem?_eq_getElem hj] at hk
        cases hk
        unfold takes at ht
        rw [Bool.and_eq_true] at ht
        exact ht.1
      rw [ej] at q
      simp only [hk] at q
      refine stf D1.ob T.cl_Device T.n_Device_took (dv_len _) (dv_put_took _ _) ?_ -- self.took = number is not None
      have D2 : DevAt K (upd H1 a.d (.ins (cDevice K) a.dd (dvF ⟨a.l, true, a.lb⟩))) a ks true g := D1.setTook
      have k2 : Kept (lw :: a.foot) H (upd H1 a.d (.ins (cDevice K) a.dd (dvF ⟨a.l, true, a.lb⟩))) := (Kept.same s1).put (inF DA.inD)
      have f2 : ∀ b, upd H1 a.d (.ins (cDevice K) a.dd (dvF ⟨a.l, true, a.lb⟩)) b = none → H b = none := fun b h => Same.free s1 (upd_none h)
      have hlw2 : upd H1 a.d (.ins (cDevice K) a.dd (dvF ⟨a.l, true, a.lb⟩)) lw = some (.lst (ws.map V.int)) := by rw [upd_ne lwd]; exact s1 _ _ hlw
      show (tSeq _ _) _ _ (upd H1 a.d (.ins (cDevice K) a.dd (dvF ⟨a.l, true, a.lb⟩)))
      generalize upd H1 a.d (.ins (cDevice K) a.dd (dvF ⟨a.l, true, a.lb⟩)) = H2 at D2 k2 hlw2 f2
      obtain ⟨i, e, x, y, c1, c2, c3, c4, c5, c6, c7, c8, c9, c10, c11⟩ := D2.onAt hk hon
      refine ⟨_, rfl, ?_⟩ -- number
      refine ⟨_, rfl, ?_⟩ -- test
      refine iteF ?_
      refine ⟨_, rfl, _, _, _, _, _, rfl, D2.ob, T.cl_Device, T.n_Device_works, dv_works _, ?_⟩
      refine ⟨_, rfl, ?_⟩ -- number
      refine ⟨_, _, _, _, rfl, rfl, SqL.of D2.lst, at_ref (n := (j : Int)) (by omega) (by simpa using c3), ?_⟩ -- self.works[number]
      refine ⟨_, rfl, ?_⟩ -- work
      refine ⟨_, _, _, rfl, c9, wo_no_move _, ?_⟩
      refine ⟨_, rfl, _, rfl, ?_⟩ -- when, words
      have lpl : lw ≠ y.pl := fun z => nl (by rw [z]; exact DA.inP c4)
      have mb := D2.co.mb k (List.mem_of_getElem? hk)
      have wkeep : ∀ {b : Addr}, b ∈ [x.1, y.g, y.pl, lw] → b ∈ lw :: a.foot := fun {b} hb => by
        simp only [List.mem_cons] at hb
        rcases hb with rfl | rfl | rfl | rfl | hb
        · exact inF (DA.inW c3)
        · exact inF (DA.inG c4)
        · exact inF (DA.inP c4)
        · exact List.mem_cons_self
        · cases hb
      /- what follows the work's move -/
      have rest : ∀ (H3 : Hp) (p : Addr) (a3 : DA), DLe a a3 → a3.was = a.was → a3.foot = a.foot → DevAt K H3 a3 (ks.set j (k.move ws).1) true (g.move j k when ws) → H p = none → H3 p = some (.tup [.str (k.move ws).2.2.1, .int (k.move ws).2.2.2.1, .int (k.move ws).2.2.2.2]) → H3 lw = some (.lst ((k.move ws).2.1.map V.int)) → Kept (lw :: a.foot) H H3 → (∀ b, H3 b = none → H b = none) →
          H3 x.1 = some (.ins (cWork K) x.2 (woF (k.wo (if (k.move ws).1.on = true then some y.g else none)))) →
          gTup K 3 (gCons (gName 7) (gCons (gName 8) (gCons (gName 9) gNil))) (.ref p) [some (.ref a.d), some (.int when), some (.bl wanted), some (.ref m), some (.ref lw), some (.int (j : Int)), some (.ref x.1), none, none, none] H3 (fun σ2 H2 => (tSeq (tIfS (tAnd (tTest (tIsN (tFld K (tVar 6) "going"))) (tTest (tNotN (tFld K (tVar 6) "follow"))))
            (tDrop (tMethR (He.ga K "Device") "start" (sp_Device_start K) E0 (tVar 0) (tCons (tFld K (tVar 6) "follow") tNil))) tNext) (tRet (tTup (tCons (tVar 5) (tCons (tVar 7) (tCons (tVar 8) (tCons (tVar 9) tNil))))))) { nx := fun _ H' => Q .non H', rt := Q } σ2 H2) := by
        intro H3 p a3 ad3 aw3 af3 D3 np hp3 hl3 k3 f3 hx3
        refine ⟨p, _, rfl, .inl (.inl hp3), rfl, _, _, rfl, _, _, rfl, _, _, rfl, rfl, ?_⟩ -- deed, address, word = work.move(words)
        have s3 : Stp [lw] a.foot H a3.foot H3 := by rw [af3]; exact Stp.of k3 f3
        have fin : ∀ (H4 : Hp) (a4 : DA) (ks4 : List Wk) (g4 : GH), DLe a a4 → Stp [lw] a.foot H a4.foot H4 → DevAt K H4 a4 ks4 true g4 → H4 lw = some (.lst ((k.move ws).2.1.map V.int)) →
            (∀ H' a' v, DLe a a' → DevAt K H' a' ks4 true g4 → H' lw = some (.lst ((k.move ws).2.1.map V.int)) → Stp [lw] a.foot H a'.foot H' → Told H H' v (some ((j : Int), (k.move ws).2.2)) → Q v H') →
            tRet (tTup (tCons (tVar 5) (tCons (tVar 7) (tCons (tVar 8) (tCons (tVar 9) tNil))))) { nx := fun _ H' => Q .non H', rt := Q } [some (.ref a.d), some (.int when), some (.bl wanted), some (.ref m), some (.ref lw), some (.int (j : Int)), some (.ref x.1), some (.str (k.move ws).2.2.1), some (.int (k.move ws).2.2.2.1), some (.int (k.move ws).2.2.2.2)] H4 := by
          intro H4 a4 ks4 g4 ad4 s4 D4 hl4 q4
          refine ⟨_, rfl, _, rfl, _, rfl, _, rfl, by show 4 ≤ sizeLine; decide, fun p2 hp2 => ?_⟩
          have np2 : H p2 = none := s4.fr _ hp2
          have s5 : Same H4 (upd H4 p2 (.tup [.int (j : Int), .str (k.move ws).2.2.1, .int (k.move ws).2.2.2.1, .int (k.move ws).2.2.2.2])) := Same.new (Same.refl _) hp2
          exact q4 _ a4 _ ad4 (D4.same s5) (s5 _ _ hl4) (s4.trans (Stp.same s5)) ⟨p2, rfl, np2, upd_same⟩
        cases hon' : (k.move ws).1.on with
        | true =>
          rw [hon'] at q hx3
          rw [if_pos rfl] at hx3
          refine ⟨_, rfl, _, _, _, _, _, rfl, hx3, T.cl_Work, T.n_Work_going, wo_going _, ?_⟩
          refine ⟨_, rfl, ?_⟩ -- test
          refine iteF (iteF ?_)
          exact fin H3 a3 _ _ ad3 s3 D3 hl3 q
        | false =>
          rw [hon'] at q hx3
          rw [if_neg (by simp)] at hx3
          refine ⟨_, rfl, _, _, _, _, _, rfl, hx3, T.cl_Work, T.n_Work_going, wo_going _, ?_⟩
          refine ⟨_, rfl, ?_⟩ -- test
          refine iteT ?_
          refine ⟨_, rfl, _, _, _, _, _, rfl, hx3, T.cl_Work, T.n_Work_follow, wo_follow _, ?_⟩
          refine ⟨_, rfl, ?_⟩ -- test
          have hkf : (k.move ws).1.follow = k.follow := by
            unfold Wk.move
            cases k.hand <;> rfl
          rw [hkf] at q
          show if _ = true then _ else _
          cases hfo : k.follow with
          | none =>
            rw [hfo] at q
            have e1 : (k.wo none).follow = none := hfo
            rw [e1]
            refine iteF ?_
            exact fin H3 a3 _ _ ad3 s3 D3 hl3 q
          | some f =>
            rw [hfo] at q
            have e1 : (k.wo none).follow = some f := hfo
            rw [e1]
            have hf0 : 0 ≤ f := (hok k (List.mem_of_getElem? hk)).2.2 f hfo
            refine iteT ?_
            refine ⟨_, rfl, ?_⟩ -- self
            refine ⟨_, _, _, rfl, by rw [← ad3.d]; exact D3.ob, dv_no_start _, ?_⟩
            refine ⟨_, rfl, _, _, _, _, _, rfl, hx3, T.cl_Work, T.n_Work_follow, wo_follow _, ?_⟩
            have ml := GH.move_len (g := g) (j := j) (k := k) (when := when) (ws := ws)
            refine ⟨a3, _, true, _, f, by rw [ad3.d, e1]; rfl, D3, hf0, by rw [ml.1, ml.2]; exact hgl, fun H4 a4 ad4 D4 s4 => ?_⟩ -- self.start(work.follow)
            have lw3 : lw ∉ a3.foot := by rw [af3]; exact nl
            exact fin H4 a4 _ _ (ad3.trans ad4) (s3.trans (s4.more [lw])) D4 (s4.kp _ _ hl3 lw3) q
      refine ⟨x.1, x.2, y.g, y.dg, y.pl, lw, k, _, when, _, ws, rfl, c9, c10, c11.lst, by rw [List.length_map, c11.len, List.length_map]; exact c7, hlw2, hw0, Ne.symm (D2.wG c4 c3), lpl, c8, by omega, fun hn H3 p f => ?_, fun v hn H3 p t f => ?_⟩ -- work.move(words)
      · have em : k.move ws = ({ k with hand := some (ws.getD ((k.begin + k.laid) % ws.length).toNat 0) }, ws, (("get" : Str), (k.begin + k.laid) % ws.length, ws.getD ((k.begin + k.laid) % ws.length).toNat 0)) := by
          unfold Wk.move
          rw [hn]
        have D3 := D2.fetched (when := when) hk hn c1 c2 c5 c4 f
        obtain ⟨f1, f2', f3, f4⟩ := f
        have yg : x.1 ≠ y.g := Ne.symm (D2.wG c4 c3)
        have lg : lw ≠ y.g := fun z => nl (by rw [z]; exact DA.inG c4)
        refine rest H3 p a (DLe.refl _) rfl rfl D3 (f2 _ f1) (by rw [em]; exact f2') (by rw [em]; exact f4 _ _ hlw2 (by simpa using lg)) (k2.trans (f4.mono (fun z hz => by
          have e : z = y.g := by simpa using hz
          rw [e]
          exact inF (DA.inG c4)))) (fun b hb => f2 _ (f4.free hb (fun z => by
          have e : b = y.g := by simpa using z
          rw [e, f3] at hb
          cases hb))) ?_
        have eo : (k.move ws).1.on = true := by rw [em]; exact hon
        rw [eo, if_pos rfl]
        exact f4 _ _ c9 (by simpa using yg)
      · have em : k.move ws = ({ k with hand := none, laid := k.laid + 1, on := decide (k.laid + 1 < k.many) }, ws.set ((k.goal + k.laid) % ws.length).toNat v, (("put" : Str), (k.goal + k.laid) % ws.length, v)) := by
          unfold Wk.move
          rw [hn]
        have D3 := D2.laid (when := when) hk hn c1 c2 c5 c3 c4 hlw2 nl f
        obtain ⟨f1, f2', f3, f4, f5, f6, f7, f8, f9⟩ := f
        refine rest H3 p { a with gas := a.gas.set i { y with ps := y.ps ++ [t] } } ⟨rfl, [], by rw [List.append_nil]; exact gas_g c4⟩ rfl (foot_set c4) D3 (f2 _ f1) (by rw [em]; exact f3) (by rw [em]; exact f8) (k2.trans (f9.mono (fun z hz => wkeep hz))) (fun b hb => f2 _ (f9.free hb (fun z => by
          simp only [List.mem_cons] at z
          rcases z with rfl | rfl | rfl | rfl | z
          · rw [f7] at hb; cases hb
          · rw [f6] at hb; cases hb
          · rw [f5] at hb; cases hb
          · rw [f8] at hb; cases hb
          · cases z))) ?_
        have eo : (k.move ws).1.on = decide (k.laid + 1 < k.many) := by rw [em]
        rw [eo, f7]
        by_cases c : k.laid + 1 < k.many
        · rw [if_pos c, if_pos (decide_eq_true c)]
        · rw [if_neg c, if_neg (by simpa using c)]
end
end SB

set_option Elab.async false
set_option linter.all false
set_option maxRecDepth 100000
set_option maxHeartbeats 2000000
namespace SB
open PySem L2
section
variable {P : Program} {w : World} {K : PySem.W.Frag} {mg : Str → Option Value} {base : Heap}
variable {H H' : Hp} {a : DA} {ks : List Wk} {took : Bool} {g : GH}
def Wk.vs (k : Wk) : List V := [.int k.begin, .int k.goal, .int k.many, .int k.block, .str k.greed, oV k.mark, oV k.follow]
def Wk.fresh (k : Wk) : Wk := { k with on := false, laid := 0, hand := none }
structure WorksAt (K : PySem.W.Frag) (H : Hp) (wl : Addr) (ts : List Addr) (ks : List Wk) : Prop where
  lst : SqL K H wl (ts.map V.ref)
  len : ts.length = ks.length
  at_ : ∀ (j : Nat) (t : Addr) (k : Wk), ts[j]? = some t → ks[j]? = some k → SqT K H t k.vs
theorem WorksAt.same {wl : Addr} {ts : List Addr} (W : WorksAt K H wl ts ks) (s : Same H H') : WorksAt K H' wl ts ks := ⟨s.seq W.lst, W.len, fun j t k h1 h2 => Same.tup s (W.at_ j t k h1 h2)⟩
def GH.none (n : Nat) : GH := ⟨[], List.replicate n Option.none, 0⟩
def sp_Device_init (K : PySem.W.Frag) : Sp := fun vs H Q _ => ∃ (d dd wl : Addr) (ts : List Addr) (ks : List Wk), vs = [.ref d, .ref wl] ∧ H d = some (.ins (cDevice K) dd []) ∧ WorksAt K H wl ts ks ∧ ts.length ≤ 6 ∧ (∀ k ∈ ks, 0 < k.many ∧ k.many ≤ 16) ∧
  ∀ H' a, a.d = d → DevAt K H' a (ks.map Wk.fresh) false (GH.none ks.length) → (∀ b ∈ a.foot, b ≠ d → H b = none) → Kept [d] H H' → (∀ b, H' b = none → H b = none) → Q .non H'
theorem ok_Device_init (T : T w K mg) : FnR P w K mg base CX0 3 (He.ma K (He.ga K "Device") "__init__") (sp_Device_init K) := by
  have F_Work_init : FnR P w K mg base CX0 1 _ _ := ok_Work_init T
  obtain ⟨fd, F⟩ := T.f_Device_init
  refine F.r sc_Device_init (fun _ _ _ _ _ _ us hl => match us, hl with | [_, _], _ => rfl) (fun vs H Q E h => ?_) (fun cdv A outer s H vs Q E hr h => ?_)
  · obtain ⟨_, _, _, _, _, rfl, _⟩ := h
    rfl
  · obtain ⟨d, dd, wl, ts, ks, rfl, hself, W, h6, mb, q⟩ := h
    refine ⟨_, (pss_cons (ps_fld (pv 0) (pe_lc (own := [("work", 2)]) (g := gName 2) (tt := tYes) (te := tMakeS K (He.ga K "Work") (sp_Work_init K) (tVar 2)) rfl sc_Device_init.nd (pi_list (pv 1)) (blkOk_by (N := ["self", "works", "work"]) (sc := defScope s_Device_init) (by decide +kernel)) (fun _ _ _ _ _ => pg_name (i := 2) sc_Device_init.nd rfl (Or.inl rfl)) (fun _ _ _ _ _ => pts_nil)
        (fun _ _ _ _ _ => pe_mkS T.mk_Work F_Work_init (hr.mono (by decide)) rfl T.g_Work (pv 2))) rfl)
      (pss_cons (ps_fld (pv 0) pe_bl rfl)
      (pss_one (ps_fld (pv 0) (pe_lst pa_nil) rfl)))), ?_⟩
    refine ⟨_, rfl, wl, rfl, ⟨_, W.lst⟩, fun D hD => lc_list (K := K) (a := wl) (xs := ts.map V.ref) (fun i H2 => ∃ was : List (Addr × Addr), H2 D = some (.lst (was.map fun p => V.ref p.1)) ∧ was.length = i ∧ Same H H2 ∧ (was.map (·.1)).Nodup ∧ (∀ a ∈ was.map (·.1), H a = none) ∧
        ∀ (j : Nat) (a dx : Addr) (k : Wk), was[j]? = some (a, dx) → ks[j]? = some k → H2 a = some (.ins (cWork K) dx (woF (k.wo none))))
      ⟨[], upd_same, rfl, Same.new (Same.refl H) hD, by simp, by simp, fun j a dx k h => by simp at h⟩ (fun i H2 _ ⟨_, _, _, s2, _⟩ => s2.seq W.lst) ?_ ?_⟩
    · rintro i x H2 hx ⟨was, h1, h2, s2, nd, hf, hw⟩
      rw [List.getElem?_map] at hx
      cases ht : ts[i]? with
      | none => rw [ht] at hx; cases hx
      | some t =>
        rw [ht] at hx
        cases hx
        have hi : i < ts.length := (List.getElem?_eq_some_iff.mp ht).1
        obtain ⟨k, hk⟩ : ∃ k, ks[i]? = some k := ⟨_, List.getElem?_eq_getElem (by rw [← W.len]; exact hi)⟩
        refine ⟨rfl, yes ?_⟩
        refine ⟨_, rfl, t, k.vs, rfl, Same.tup s2 (W.at_ i t k ht hk), fun x dx nx ndx ne => ?_⟩
        refine ⟨x, dx, k.begin, k.goal, k.many, k.block, k.greed, k.mark, k.follow, rfl, upd_same, fun H3 e3 k3 => ⟨rfl, ?_⟩⟩
        have hDx : D ≠ x := ne_of_none h1 nx
        have hDdx : D ≠ dx := ne_of_none h1 ndx
        have s3 : Same H2 H3 := fun b o e => k3 b o (by rw [upd_ne (ne_of_none e nx), upd_ne (ne_of_none e ndx)]; exact e) (by simpa using ne_of_none e nx)
        have h13 := s3 _ _ h1
        refine ⟨_, h13, ?_, was ++ [(x, dx)], ?_, by simp [h2], ?_, ?_, ?_, ?_⟩
        · rw [List.length_map, h2]
          exact Nat.lt_of_lt_of_le hi (Nat.le_trans h6 (by decide))
        · rw [upd_same, List.map_append]
          rfl
        · exact Same.new (s2.trans s3) hD
        · rw [List.map_append]
          refine List.nodup_append.mpr ⟨nd, by simp, fun a ha b hb => ?_⟩
          have eb : b = x := by simpa using hb
          subst eb
          intro z
          subst z
          obtain ⟨p, hp, e⟩ := List.mem_map.mp ha
          obtain ⟨j, hj, ej⟩ := List.mem_iff_getElem.mp hp
          obtain ⟨kj, hkj⟩ : ∃ kj, ks[j]? = some kj := ⟨_, List.getElem?_eq_getElem (by rw [← W.len]; omega)⟩
          have := hw j p.1 p.2 kj (by rw [List.getElem?_eq_getElem hj, ej]) hkj
          rw [e, nx] at this
          cases this
        · intro a ha
          rw [List.map_append] at ha
          rcases List.mem_append.mp ha with ha | ha
          · exact hf a ha
          · have ea : a = x := by simpa using ha
            rw [ea]
            exact Same.free s2 nx
        · intro j a dy kj e1 e2
          by_cases hj : j < was.length
          · rw [List.getElem?_append_left hj] at e1
            have e4 := hw j a dy kj e1 e2
            have haD : a ≠ D := by
              intro z
              rw [z, h1] at e4
              cases e4
            rw [upd_ne haD]
            exact s3 _ _ e4
          · have ej : j = was.length := by
              have := (List.getElem?_eq_some_iff.mp e1).1
              rw [List.length_append] at this
              simp at this
              omega
            subst ej
            rw [List.getElem?_append_right (Nat.le_refl _), Nat.sub_self] at e1
            have e5 : (x, dx) = (a, dy) := by simpa using e1
            cases e5
            rw [h2, hk] at e2
            cases e2
            rw [upd_ne (Ne.symm hDx)]
            exact e3
    · rintro H2 ⟨was, h1, h2, s2, nd, hf, hw⟩
      rw [List.length_map] at h2
      have e1 := s2 _ _ hself
      have hdD : d ≠ D := ne_of_none hself hD
      refine stf e1 T.cl_Device T.n_Device_works (by decide) rfl ?_
      refine stf upd_same T.cl_Device T.n_Device_took (lt1000 (by kernel_rfl)) rfl ?_
      rw [upd_upd]
      refine ⟨by show 0 ≤ sizeLine; decide, fun b hb => ?_⟩
      have bd : b ≠ d := fun z => by rw [z, upd_same] at hb; cases hb
      rw [upd_ne bd] at hb
      have nb : H b = none := Same.free s2 hb
      refine stf (by rw [upd_ne (Ne.symm bd)]; exact upd_same) T.cl_Device T.n_Device_begun (lt1000 (by kernel_rfl)) (dv_made D false b) ?_
      have Db : D ≠ b := ne_of_none h1 hb
      have had : ∀ {j : Nat} {x : Addr × Addr}, was[j]? = some x → x.1 ≠ d := fun {j x} e2 z => by
        have := hf x.1 (List.mem_map.mpr ⟨x, List.mem_of_getElem? e2, rfl⟩)
        rw [z, hself] at this
        cases this
      refine q _ ⟨d, dd, D, b, was, []⟩ rfl ⟨upd_same, ?_, ?_, fun j x k e2 e3 => ?_, fun i x e h => ?_, ?_, rfl, ⟨by simp [GH.none], fun j k i e2 e3 => ?_, fun j k e2 e3 => ?_, fun k hk => ?_, Nat.le_refl _⟩, nd, by simp, ?_⟩ (fun z hz hzd => ?_) (((Kept.same s2).put (by simp)).new nb |>.put (by simp)) (fun z hz => Same.free s2 (upd_none (upd_none (upd_none hz))))
      · show upd _ d _ D = _
        rw [upd_ne (Ne.symm hdD), upd_ne Db, upd_ne (Ne.symm hdD)]
        exact h1
      · show upd _ d _ b = some (.lst [])
        rw [upd_ne bd]
        exact upd_same
      · rw [List.getElem?_map] at e3
        cases ek : ks[j]? with
        | none => rw [ek] at e3; cases e3
        | some k0 =>
          rw [ek] at e3
          cases e3
          have e4 := hw j x.1 x.2 k0 e2 ek
          have hxd := had e2
          have eg : ∀ o : Option (Option Nat), goA ([] : List GA) o = none := fun o => by cases o with | none => rfl | some o => cases o <;> rfl
          show upd _ d _ x.1 = some (.ins (cWork K) x.2 (woF (k0.fresh.wo (goA [] _))))
          rw [eg, upd_ne hxd, upd_ne (ne_of_none e4 hb), upd_ne hxd]
          exact e4
      · simp at h
      · rw [List.length_map]
        show was.length = _
        rw [h2, W.len]
      · have e3' : (List.replicate ks.length (Option.none : Option Nat))[j]? = some (some i) := e3
        rw [List.getElem?_replicate] at e3'
        split at e3' <;> cases e3'
      · rw [List.getElem?_map] at e2
        cases ek : ks[j]? with
        | none => rw [ek] at e2; cases e2
        | some k0 =>
          rw [ek] at e2
          cases e2
          exact ⟨rfl, rfl⟩
      · obtain ⟨k0, hk0, rfl⟩ := List.mem_map.mp hk
        exact mb k0 hk0
      · show [D, b].Nodup
        simp [Db]
      · have hz' : z ∈ d :: D :: b :: (was.map (·.1) ++ ([] ++ [])) := hz
        simp only [List.mem_cons, List.append_nil] at hz'
        rcases hz' with h | h | h | h
        · exact absurd h hzd
        · rw [h]; exact hD
        · rw [h]; exact nb
        · exact hf z h
def onFrom : Nat → List Wk → List (Nat × Wk)
  | _, [] => []
  | i, k :: r => if k.on = true then (i, k) :: onFrom (i + 1) r else onFrom (i + 1) r
theorem onFrom_app : ∀ (i : Nat) (xs ys : List Wk), onFrom i (xs ++ ys) = onFrom i xs ++ onFrom (i + xs.length) ys
  | i, [], ys => by simp [onFrom]
  | i, k :: r, ys => by
    show (if k.on = true then _ :: onFrom (i + 1) (r ++ ys) else onFrom (i + 1) (r ++ ys)) = (if k.on = true then _ :: onFrom (i + 1) r else onFrom (i + 1) r) ++ _
    rw [onFrom_app (i + 1) r ys]
    have e : i + 1 + r.length = i + (k :: r).length := by simp; omega
    rw [e]
    split <;> rfl
theorem onFrom_len : ∀ (i : Nat) (ks : List Wk), (onFrom i ks).length ≤ ks.length
  | _, [] => by simp [onFrom]
  | i, k :: r => by
    have := onFrom_len (i + 1) r
    show (if k.on = true then _ :: onFrom (i + 1) r else onFrom (i + 1) r).length ≤ _
    split
    · simp only [List.length_cons]; omega
    · simp only [List.length_cons]; omega
theorem onFrom_mem : ∀ (i : Nat) (ks : List Wk) (j : Nat) (k : Wk), (j, k) ∈ onFrom i ks → i ≤ j ∧ ks[j - i]? = some k ∧ k.on = true
  | i, [], j, k, h => by simp [onFrom] at h
  | i, k0 :: r, j, k, h => by
    have h' : (j, k) ∈ (if k0.on = true then (i, k0) :: onFrom (i + 1) r else onFrom (i + 1) r) := h
    have rc2 : (j, k) ∈ onFrom (i + 1) r → i ≤ j ∧ (k0 :: r)[j - i]? = some k ∧ k.on = true := fun h2 => by
      obtain ⟨a1, a2, a3⟩ := onFrom_mem (i + 1) r j k h2
      have e : j - i = (j - (i + 1)) + 1 := by omega
      exact ⟨by omega, by rw [e]; exact a2, a3⟩
    split at h'
    · rename_i ho
      rcases List.mem_cons.mp h' with z | z
      · cases z
        exact ⟨Nat.le_refl _, by simp, ho⟩
      · exact rc2 z
    · exact rc2 h'
theorem onFrom_take {ks : List Wk} {i : Nat} {k : Wk} (hk : ks[i]? = some k) : onFrom 0 (ks.take (i + 1)) = onFrom 0 (ks.take i) ++ (if k.on = true then [(i, k)] else []) := by
  have et : ks.take (i + 1) = ks.take i ++ [k] := by
    rw [List.take_add_one, hk]
    rfl
  have hi : i < ks.length := (List.getElem?_eq_some_iff.mp hk).1
  rw [et, onFrom_app]
  have el : 0 + (ks.take i).length = i := by rw [List.length_take]; omega
  rw [el]
  rfl
def sp_Device_numbers_on (K : PySem.W.Frag) : Sp := fun vs H Q _ => ∃ (a : DA) (ks : List Wk) (took : Bool) (g : GH), vs = [.ref a.d] ∧ DevAt K H a ks took g ∧ ks.length ≤ 6 ∧
  ∀ H' D, H D = none → H' D = some (.lst ((onFrom 0 ks).map fun p => V.int (p.1 : Int))) → Same H H' → Q (.ref D) H'
theorem ok_Device_numbers_on (T : T w K mg) : FnR P w K mg base CX0 2 (He.ma K (He.ga K "Device") "numbers_on") (sp_Device_numbers_on K) := by
  have F_Device_is_on : FnR P w K mg base CX0 1 _ _ := ok_Device_is_on T
  obtain ⟨fd, F⟩ := T.f_Device_numbers_on
  refine F.r sc_Device_numbers_on (fun _ _ _ _ _ _ us hl => match us, hl with | [_], _ => rfl) (fun vs H Q E h => ?_) (fun cdv A outer s H vs Q E hr h => ?_)
  · obtain ⟨_, _, _, _, rfl, _⟩ := h
    rfl
  · obtain ⟨a, ks, took, g, rfl, D, h6, q⟩ := h
    refine ⟨_, (pss_one (ps_ret (pe_lc (own := [("number", 1)]) (g := gName 1) (tt := tB (tMethR (He.ga K "Device") "is_on" (sp_Device_is_on K) E0 (tVar 0) (tCons (tVar 1) tNil))) (te := tVar 1) rfl sc_Device_numbers_on.nd
        (pi_range1 rfl T.u_range (pa_cons (pe_callB call_len_seq rfl T.u_len PySem.boot_len (pa_cons (pe_fld (pv 0) rfl) pa_nil)) pa_nil))
        (blkOk_by (N := ["self", "number"]) (sc := defScope s_Device_numbers_on) (by decide +kernel))
        (fun _ _ _ _ _ => pg_name (i := 1) sc_Device_numbers_on.nd rfl (Or.inl rfl))
        (fun _ _ _ _ _ => pts_one (pt_val (pe_mthR (pv 0) T.cl_Device T.m_Device_is_on F_Device_is_on (hr.mono (by decide)) (pa_cons (pv 1) pa_nil))))
        (fun _ _ _ _ _ => pv 1)))), ?_⟩
    refine ⟨_, rfl, _, _, _, _, _, rfl, D.ob, T.cl_Device, T.n_Device_works, dv_works _, ?_⟩
    refine ⟨_, _, rfl, .inl (SqL.of D.lst), ?_⟩ -- len
    rw [List.length_map, D.len]
    refine ⟨(ks.length : Int), rfl, by omega, by omega, fun R hR => ?_⟩
    refine lc_it walk_range (fun i H2 => H2 R = some (.lst ((onFrom 0 (ks.take i)).map fun p => V.int (p.1 : Int))) ∧ Same H H2)
      ⟨upd_same, Same.new (Same.refl H) hR⟩ (fun i H2 _ _ => trivial) ?_ ?_
    · rintro i x H2 H3 hi ⟨hR2, s2⟩ ⟨rfl, rfl⟩
      have hi2 : i < ks.length := by omega
      obtain ⟨k, hk⟩ : ∃ k, ks[i]? = some k := ⟨_, List.getElem?_eq_getElem hi2⟩
      have D2 := D.same s2
      have et := onFrom_take hk
      refine ⟨rfl, ?_⟩
      refine ⟨_, rfl, _, _, _, rfl, D2.ob, dv_no_is_on _, ?_⟩
      refine ⟨_, rfl, ?_⟩
      refine ⟨a, ks, took, g, (i : Int), by simp, D2, by omega, ?_⟩
      refine ⟨_, rfl, ?_⟩
      have eon : isOn ks (i : Int) = k.on := by
        unfold isOn
        rw [show ((i : Int)).toNat = i from by omega, hk]
      rw [eon]
      cases hon : k.on with
      | false =>
        rw [hon] at et
        refine iteF ⟨?_, s2⟩
        rw [et]
        simpa using hR2
      | true =>
        rw [hon] at et
        refine iteT ?_
        refine ⟨_, rfl, _, hR2, ?_, ?_, ?_⟩
        · rw [List.length_map]
          have := onFrom_len 0 (ks.take i)
          rw [List.length_take] at this
          exact Nat.lt_of_le_of_lt (Nat.le_trans this (by omega : _ ≤ 6)) (by decide)
        · rw [upd_same, et, List.map_append]
          simp
        · exact Same.new s2 hR
    · rintro H2 ⟨hR2, s2⟩
      have e : ((ks.length : Int)).toNat = ks.length := by omega
      rw [e, List.take_length] at hR2
      exact q _ R hR hR2 s2
def goFrom : Nat → List Wk → List (Int × Int × Bool)
  | _, [] => []
  | i, k :: r => if k.on = true then ((i : Int), k.laid, k.hand.isSome) :: goFrom (i + 1) r else goFrom (i + 1) r
theorem goFrom_app : ∀ (i : Nat) (xs ys : List Wk), goFrom i (xs ++ ys) = goFrom i xs ++ goFrom (i + xs.length) ys
  | i, [], ys => by simp [goFrom]
  | i, k :: r, ys => by
    show (if k.on = true then _ :: goFrom (i + 1) (r ++ ys) else goFrom (i + 1) (r ++ ys)) = (if k.on = true then _ :: goFrom (i + 1) r else goFrom (i + 1) r) ++ _
    rw [goFrom_app (i + 1) r ys]
    have e : i + 1 + r.length = i + (k :: r).length := by simp; omega
    rw [e]
    split <;> rfl
def goV (g : Int × Int × Bool) : List V := [.int g.1, .int g.2.1, .bl g.2.2]
theorem goFrom_on : ∀ (i : Nat) (ks : List Wk), goFrom i ks = (onFrom i ks).map fun p => ((p.1 : Int), p.2.laid, p.2.hand.isSome)
  | _, [] => rfl
  | i, k :: r => by
    show (if k.on = true then _ :: goFrom (i + 1) r else goFrom (i + 1) r) = (if k.on = true then (i, k) :: onFrom (i + 1) r else onFrom (i + 1) r).map _
    rw [goFrom_on (i + 1) r]
    split <;> rfl
theorem goFrom_len : ∀ (i : Nat) (ks : List Wk), (goFrom i ks).length ≤ ks.length
  | _, [] => by simp [goFrom]
  | i, k :: r => by
    have := goFrom_len (i + 1) r
    show (if k.on = true then _ :: goFrom (i + 1) r else goFrom (i + 1) r).length ≤ _
    split
    · simp only [List.length_cons]; omega
    · simp only [List.length_cons]; omega
theorem oV_non {o : Option Int} : (!decide (oV o = V.non)) = o.isSome := by
  cases o <;> rfl
theorem goFromA_len : ∀ (i : Nat) (ks : List Wk), (goFrom i ks).length = (onFrom i ks).length := fun i ks => by rw [goFrom_on, List.length_map]
def sp_Device_shown_on (K : PySem.W.Frag) : Sp := fun vs H Q _ => ∃ (a : DA) (ks : List Wk) (took : Bool) (g : GH), vs = [.ref a.d] ∧ DevAt K H a ks took g ∧ ks.length ≤ 6 ∧
  ∀ H' D ps, H D = none → TupsAt H' D ps ((goFrom 0 ks).map goV) → Same H H' → Q (.ref D) H'
theorem ok_Device_shown_on (T : T w K mg) : FnR P w K mg base CX0 3 (He.ma K (He.ga K "Device") "shown_on") (sp_Device_shown_on K) := by
  have F_Device_numbers_on : FnR P w K mg base CX0 2 _ _ := ok_Device_numbers_on T
  obtain ⟨fd, F⟩ := T.f_Device_shown_on
  refine F.r sc_Device_shown_on (fun _ _ _ _ _ _ us hl => match us, hl with | [_], _ => rfl) (fun vs H Q E h => ?_) (fun cdv A outer s H vs Q E hr h => ?_)
  · obtain ⟨_, _, _, _, rfl, _⟩ := h
    rfl
  · obtain ⟨a, ks, took, g, rfl, D, h6, q⟩ := h
    refine ⟨_, (pss_cons (ps_setLc (i := 1) (own := [("number", 2)]) (g := gName 2) (tt := tYes) (te := tTup (tCons (tVar 2) (tCons (tFld K (tOp (rIxL K) (tFld K (tVar 0) "works") (tVar 2)) "going") tNil))) rfl sc_Device_shown_on.nd rfl rfl (sw_true rfl rfl rfl (by decide +kernel))
        (pi_list (pe_mth0R (pv 0) T.cl_Device T.m_Device_numbers_on F_Device_numbers_on (hr.mono (by decide))))
        (blkOk_by (N := ["self", "on", "number", "going"]) (sc := defScope s_Device_shown_on) (by decide +kernel))
        (fun _ _ _ _ _ => pg_name (i := 2) sc_Device_shown_on.nd rfl (Or.inl rfl)) (fun _ _ _ _ _ => pts_nil)
        (fun _ _ _ _ _ => pe_tup (pa_cons (pv 2) (pa_cons (pe_fld (pe_ix ix_list (pe_fld (pv 0) rfl) (pv 2) (fun _ _ => rfl)) rfl) pa_nil))))
      (pss_one (ps_ret (pe_lc (own := [("number", 2), ("going", 3)]) (g := gTup K 2 (gCons (gName 2) (gCons (gName 3) gNil))) (tt := tYes) (te := tTup (tCons (tVar 2) (tCons (tCB (fun xs H Q => ∃ p ys, xs = [.ref p] ∧ (SqL K H p ys ∨ SqT K H p ys) ∧ Q (.int ys.length) H) (tCons (tFld K (tVar 3) "puts") tNil)) (tCons (tNotN (tFld K (tVar 3) "hand")) tNil)))) rfl sc_Device_shown_on.nd (pi_list (pv 1))
        (blkOk_by (N := ["self", "on", "number", "going"]) (sc := defScope s_Device_shown_on) (by decide +kernel))
        (fun _ _ _ _ _ => pg_tup rfl (pgs_cons (pg_name (i := 2) sc_Device_shown_on.nd rfl (Or.inl rfl)) (pgs_cons (pg_name (i := 3) sc_Device_shown_on.nd rfl (Or.inl rfl)) pgs_nil)))
        (fun _ _ _ _ _ => pts_nil)
        (fun _ _ _ _ _ => pe_tup (pa_cons (pv 2) (pa_cons (pe_callB call_len_seq rfl T.u_len PySem.boot_len (pa_cons (pe_fld (pv 3) rfl) pa_nil)) (pa_cons (pe_cmp (pc_notN (pe_fld (pv 3) rfl))) pa_nil)))))))), ?_⟩
    refine ⟨_, rfl, _, _, _, rfl, D.ob, dv_no_numbers_on _, ?_⟩
    refine ⟨a, ks, took, g, rfl, D, h6, fun H1 N hN hN1 s1 => ?_⟩
    have D1 := D.same s1
    have lmem : ∀ {i : Nat} {p : Nat × Wk}, (onFrom 0 ks)[i]? = some p → ks[p.1]? = some p.2 ∧ p.2.on = true := fun {i p} h => by
      obtain ⟨_, h2, h3⟩ := onFrom_mem 0 ks p.1 p.2 (List.mem_of_getElem? h)
      exact ⟨by simpa using h2, h3⟩
    have l6 : (onFrom 0 ks).length ≤ 6 := Nat.le_trans (onFrom_len 0 ks) h6
    refine ⟨N, rfl, ⟨_, SqL.of hN1⟩, fun R hR => ?_⟩
    refine lc_list (K := K) (a := N) (xs := (onFrom 0 ks).map fun p => V.int (p.1 : Int)) (fun i H2 => ∃ ps, TupsAt H2 R ps (((onFrom 0 ks).take i).map fun p => [V.int (p.1 : Int), oA (goA a.gas g.cur[p.1]?)]) ∧ Same H1 H2)
      ⟨[], ⟨upd_same, rfl, fun j p vs e => by simp at e⟩, Same.new (Same.refl H1) hR⟩ (fun i H2 _ ⟨_, _, s2⟩ => SqL.of (s2 _ _ hN1)) ?_ ?_
    · rintro i x H2 hx ⟨ps, tp, s2⟩
      rw [List.getElem?_map] at hx
      cases ht : (onFrom 0 ks)[i]? with
      | none => rw [ht] at hx; cases hx
      | some p =>
        rw [ht] at hx
        cases hx
        obtain ⟨hk, ho⟩ := lmem ht
        have D2 := D1.same s2
        obtain ⟨x, x1, x2⟩ := D2.get hk
        have hi : i < (onFrom 0 ks).length := (List.getElem?_eq_some_iff.mp ht).1
        refine ⟨rfl, yes ?_⟩
        refine ⟨_, rfl, ?_⟩ -- number
        refine ⟨_, rfl, _, _, _, _, _, rfl, D2.ob, T.cl_Device, T.n_Device_works, dv_works _, ?_⟩
        refine ⟨_, rfl, ?_⟩ -- number
        refine ⟨_, _, _, _, rfl, rfl, SqL.of D2.lst, at_ref (n := (p.1 : Int)) (by omega) (by simpa using x1), ?_⟩
        refine ⟨_, _, _, _, _, rfl, x2, T.cl_Work, T.n_Work_going, wo_going _, ?_⟩
        refine ⟨by show 2 ≤ sizeLine; decide, fun t ht2 => ?_⟩
        have nR : R ≠ t := ne_of_none tp.lst ht2
        refine ⟨_, by rw [upd_ne nR]; exact tp.lst, ?_, ps ++ [t], ?_, ?_⟩
        · rw [List.length_map, tp.len, List.length_map, List.length_take]
          exact Nat.lt_of_le_of_lt (Nat.le_trans (Nat.min_le_right _ _) l6) (by decide)
        · rw [List.take_add_one, ht]
          show TupsAt _ R (ps ++ [t]) (((onFrom 0 ks).take i ++ [p]).map _)
          rw [List.map_append]
          have := tp.snoc (vs := [V.int (p.1 : Int), oA (goA a.gas g.cur[p.1]?)]) ht2
          rw [List.map_append] at this
          exact this
        · have nH : H1 t = none := Same.free s2 ht2
          exact Same.new (Same.new s2 nH) hR
    · rintro H2 ⟨ps, tp, s2⟩
      rw [List.length_map, List.take_length] at tp
      have D2 := D1.same s2
      refine ⟨_, rfl, R, rfl, ⟨_, SqL.of tp.lst⟩, fun R2 hR2 => ?_⟩
      refine lc_list (K := K) (a := R) (xs := ps.map V.ref) (fun i H3 => ∃ ps3, TupsAt H3 R2 ps3 (((onFrom 0 ks).take i).map fun p => goV ((p.1 : Int), p.2.laid, p.2.hand.isSome)) ∧ Same H2 H3)
        ⟨[], ⟨upd_same, rfl, fun j p vs e => by simp at e⟩, Same.new (Same.refl H2) hR2⟩ (fun i H3 _ ⟨_, _, s3⟩ => SqL.of (s3 _ _ tp.lst)) ?_ ?_
      · rintro i x H3 hx ⟨ps3, tp3, s3⟩
        rw [List.getElem?_map] at hx
        cases ht : ps[i]? with
        | none => rw [ht] at hx; cases hx
        | some t =>
          rw [ht] at hx
          cases hx
          have hi : i < (onFrom 0 ks).length := by
            have := (List.getElem?_eq_some_iff.mp ht).1
            rw [tp.len, List.length_map] at this
            exact this
          obtain ⟨p, hp⟩ : ∃ p, (onFrom 0 ks)[i]? = some p := ⟨_, List.getElem?_eq_getElem hi⟩
          obtain ⟨hk, ho⟩ := lmem hp
          have htt : H2 t = some (.tup [V.int (p.1 : Int), oA (goA a.gas g.cur[p.1]?)]) := tp.at_ i t _ ht (by rw [List.getElem?_map, hp]; rfl)
          have D3 := D2.same s3
          obtain ⟨i', e', x', y', c1, c2, c3, c4, c5, c6, c7, c8, c9, c10, c11⟩ := D3.onAt hk ho
          have eg : goA a.gas g.cur[p.1]? = some y'.g := by
            rw [c1]
            show (a.gas[i']?).map _ = _
            rw [c4]
            rfl
          rw [eg] at htt
          refine ⟨t, _, rfl, .inl (.inl (s3 _ _ htt)), rfl, _, _, rfl, _, _, rfl, rfl, rfl, yes ?_⟩
          refine ⟨_, rfl, ?_⟩ -- number
          refine ⟨_, rfl, _, _, _, _, _, rfl, c10, T.cl_Going, T.n_Going_puts, gg_puts _, ?_⟩
          refine ⟨_, _, rfl, .inl (SqL.of c11.lst), ?_⟩ -- len
          refine ⟨_, rfl, _, _, _, _, _, rfl, c10, T.cl_Going, T.n_Going_hand, gg_hand _, ?_⟩
          refine ⟨by show 3 ≤ sizeLine; decide, fun u hu => ?_⟩
          rw [oV_non]
          have el : ((y'.ps.map V.ref).length : Int) = p.2.laid := by rw [List.length_map, c11.len, List.length_map]; exact c7
          rw [el]
          have nR : R2 ≠ u := ne_of_none tp3.lst hu
          refine ⟨_, by rw [upd_ne nR]; exact tp3.lst, ?_, ps3 ++ [u], ?_, ?_⟩
          · rw [List.length_map, tp3.len, List.length_map, List.length_take]
            exact Nat.lt_of_le_of_lt (Nat.le_trans (Nat.min_le_right _ _) l6) (by decide)
          · rw [List.take_add_one, hp]
            show TupsAt _ R2 (ps3 ++ [u]) (((onFrom 0 ks).take i ++ [p]).map _)
            rw [List.map_append]
            have := tp3.snoc (vs := goV ((p.1 : Int), p.2.laid, p.2.hand.isSome)) hu
            rw [List.map_append] at this
            exact this
          · exact Same.new (Same.new s3 (Same.free s3 hu)) hR2
      · rintro H3 ⟨ps3, tp3, s3⟩
        have el : (ps.map V.ref).length = (onFrom 0 ks).length := by rw [List.length_map, tp.len, List.length_map]
        rw [el, List.take_length] at tp3
        refine q _ R2 ps3 (Same.free s1 (Same.free s2 hR2)) ?_ ((s1.trans s2).trans s3)
        rw [goFrom_on, List.map_map]
        exact tp3
end
end SB

set_option Elab.async false
set_option linter.all false
set_option maxRecDepth 100000
set_option maxHeartbeats 2000000
namespace SB
open PySem L2
inductive Row where
  | set (r n : Int) | add (r s : Int) | less (r s : Int) | get (r a : Int) | put (a r : Int) | getx (r s : Int) | putx (s r : Int) | pair (r a : Int) | lay (a r : Int) | go (t : Int) | iff (r t : Int)
  | ask (w : Int) | done (r w : Int) | mark (m : Int) | clear (m : Int) | rest (n : Int) | fin
def Row.vs : Row → List V
  | .set r n => [.str "set", .int r, .int n] | .add r s => [.str "add", .int r, .int s] | .less r s => [.str "less", .int r, .int s] | .get r a => [.str "get", .int r, .int a] | .put a r => [.str "put", .int a, .int r]
  | .getx r s => [.str "getx", .int r, .int s] | .putx s r => [.str "putx", .int s, .int r] | .pair r a => [.str "pair", .int r, .int a] | .lay a r => [.str "lay", .int a, .int r] | .go t => [.str "go", .int t]
  | .iff r t => [.str "if", .int r, .int t] | .ask w => [.str "ask", .int w] | .done r w => [.str "done", .int r, .int w] | .mark m => [.str "mark", .int m] | .clear m => [.str "clear", .int m] | .rest n => [.str "rest", .int n] | .fin => [.str "end"]
def rg (lo hi x : Int) : Prop := lo ≤ x ∧ x ≤ hi
def Row.ok (n : Nat) : Row → Prop
  | .set r x => rg 0 3 r ∧ rg 0 999 x | .add r s => rg 0 3 r ∧ rg 0 3 s | .less r s => rg 0 3 r ∧ rg 0 3 s | .get r a => rg 0 3 r ∧ rg 0 31 a | .put a r => rg 0 31 a ∧ rg 0 3 r | .getx r s => rg 0 3 r ∧ rg 0 3 s | .putx s r => rg 0 3 s ∧ rg 0 3 r
  | .pair r a => rg 0 2 r ∧ rg 0 31 a | .lay a r => rg 0 31 a ∧ rg 0 2 r | .go t => 0 ≤ t ∧ t < n | .iff r t => rg 0 3 r ∧ 0 ≤ t ∧ t < n | .ask w => rg 0 5 w | .done r w => rg 0 3 r ∧ rg 0 5 w | .mark m => rg 0 2 m | .clear m => rg 0 2 m | .rest x => rg 1 9 x | .fin => True
def Row.beats : Row → Int
  | .rest n => n | .pair _ _ => 2 | .lay _ _ => 2 | _ => 1
def Row.word (spent : Int) (cells : List Int) : Row → Option (Str × Int × Int)
  | .get r a => some ("get", a, r) | .put a r => some ("put", a, r) | .getx r s => some ("get", cells.getD s.toNat 0, r) | .putx s r => some ("put", cells.getD s.toNat 0, r)
  | .pair r a => some ("get", a + spent, r + spent) | .lay a r => some ("put", a + spent, r + spent) | _ => none
section
variable {K : PySem.W.Frag} {σ : L2.St} {H : Hp} {D : Ends} {t : Addr} {xs : List V} {n i j : Nat} {tq : TPats} {b : TS} {u : TMc} {x y : Str} {a c : V} {tp : TPat}
theorem iteP {c A B : Prop} [Decidable c] (hc : c) (h : A) : if c then A else B := by rw [if_pos hc]; exact h
theorem tm_len (ht : SqT K H t xs) (hn : xs.length ≠ n) (q : u (.ref t) D σ H) : tmCons (tpSeq K n tq) b u (.ref t) D σ H := ⟨t, xs, rfl, ht, by rw [if_neg hn]; exact q⟩
theorem tm_str (ht : SqT K H t (.str y :: xs)) (hn : xs.length + 1 = n) (hy : y ≠ x) (q : u (.ref t) D σ H) : tmCons (tpSeq K n (tqCons (tpStr x) tq)) b u (.ref t) D σ H :=
  ⟨t, _, rfl, ht, by
    rw [if_pos (by simpa using hn)]
    refine ⟨_, _, rfl, rfl, ?_⟩
    rw [if_neg (fun z => hy (V.str.inj z))]
    exact q⟩
theorem tm_hit0 (ht : SqT K H t [.str x]) (q : b D σ H) : tmCons (tpSeq K 1 (tqCons (tpStr x) tqNil)) b u (.ref t) D σ H :=
  ⟨t, _, rfl, ht, by
    refine iteP rfl ?_
    refine ⟨_, _, rfl, rfl, ?_⟩
    rw [if_pos rfl]
    exact q⟩
theorem tm_hit1 (ht : SqT K H t [.str x, a]) (q : b D (bindAll [(i, a)] σ) H) : tmCons (tpSeq K 2 (tqCons (tpStr x) (tqCons (tpName i) tqNil))) b u (.ref t) D σ H :=
  ⟨t, _, rfl, ht, by
    refine iteP rfl ?_
    refine ⟨_, _, rfl, rfl, ?_⟩
    rw [if_pos rfl]
    exact ⟨_, _, rfl, q⟩⟩
theorem tm_hit2 (ht : SqT K H t [.str x, a, c]) (q : b D (bindAll [(i, a), (j, c)] σ) H) : tmCons (tpSeq K 3 (tqCons (tpStr x) (tqCons (tpName i) (tqCons (tpName j) tqNil)))) b u (.ref t) D σ H :=
  ⟨t, _, rfl, ht, by
    refine iteP rfl ?_
    refine ⟨_, _, rfl, rfl, ?_⟩
    rw [if_pos rfl]
    exact ⟨_, _, rfl, _, _, rfl, q⟩⟩
end
section
variable {P : Program} {w : World} {K : PySem.W.Frag} {mg : Str → Option Value} {base : Heap}
def sp_beats_of (K : PySem.W.Frag) : Sp := fun vs H Q _ => ∃ (t : Addr) (r : Row), vs = [.ref t] ∧ SqT K H t r.vs ∧ ∀ H', Same H H' → Q (.int r.beats) H'
theorem ok_beats_of (T : T w K mg) : FnR P w K mg base CX0 1 (He.ga K "beats_of") (sp_beats_of K) := by
  obtain ⟨fd, F⟩ := T.f_beats_of
  refine F.r sc_beats_of (fun _ _ _ _ _ _ us hl => match us, hl with | [_], _ => rfl) (fun vs H Q E h => ?_) (fun cdv A outer s H vs Q E hr h => ?_)
  · obtain ⟨_, _, rfl, _⟩ := h
    rfl
  · obtain ⟨t, r, rfl, ht, q⟩ := h
    refine ⟨_, (pss_cons (ps_if (pt_cmpR op_eq (pe_ix ix_tup (pv 0) pe_int (fun _ _ => rfl)) pe_str (nomark _))
      (pss_one (ps_ret (pe_ix ix_tup (pv 0) pe_int (fun _ _ => rfl))))
      pss_nil)
      (pss_one (ps_ret (pe_ifExp (pt_cmpR op_in_seq (pe_ix ix_tup (pv 0) pe_int (fun _ _ => rfl)) (pe_tup (pa_cons pe_str (pa_cons pe_str pa_nil))) rfl) pe_int pe_int)))), ?_⟩
    refine ⟨_, rfl, ?_⟩ -- row
    cases r
    case rest n =>
      refine ⟨_, _, _, _, rfl, rfl, ht, rfl, ?_⟩
      refine ⟨rfl, ?_⟩
      refine ⟨_, rfl, ?_⟩
      refine iteT ?_
      refine ⟨_, rfl, ?_⟩ -- row
      refine ⟨_, _, _, _, rfl, rfl, ht, rfl, ?_⟩ -- row[1]
      exact q _ (Same.refl H)
    all_goals
      refine ⟨_, _, _, _, rfl, rfl, ht, rfl, ?_⟩
      refine ⟨rfl, ?_⟩
      refine ⟨_, rfl, ?_⟩
      rw [dec_str, decide_eq_false (by decide +kernel)]
      refine iteF ?_
      refine ⟨_, rfl, ?_⟩ -- row
      refine ⟨_, _, _, _, rfl, rfl, ht, rfl, ?_⟩ -- row[0]
      refine ⟨by show 2 ≤ sizeLine; decide, fun p hp => ?_⟩
      refine ⟨_, _, rfl, .inr (.inl (.inl upd_same)), rfl, rfl, ?_⟩
      refine ⟨_, rfl, ?_⟩ -- test
      first
        | exact iteT (q _ (Same.new (Same.refl H) hp))
        | exact iteF (q _ (Same.new (Same.refl H) hp))
        | skip
def Wtd (H H' : Hp) (v : V) : Option (Str × Int × Int) → Prop
  | none => v = .non
  | some (z, p, c) => ∃ q, v = .ref q ∧ H q = none ∧ H' q = some (.tup [.str z, .int p, .int c])
def sp_word_of (K : PySem.W.Frag) : Sp := fun vs H Q _ => ∃ (t c : Addr) (r : Row) (n : Nat) (spent : Int) (cells : List Int), vs = [.ref t, .int spent, .ref c] ∧ SqT K H t r.vs ∧ r.ok n ∧ H c = some (.lst (cells.map V.int)) ∧ cells.length = 4 ∧
  ∀ H' v, Same H H' → Wtd H H' v (r.word spent cells) → Q v H'
theorem ok_word_of (T : T w K mg) : FnR P w K mg base CX0 1 (He.ga K "word_of") (sp_word_of K) := by
  obtain ⟨fd, F⟩ := T.f_word_of
  refine F.r sc_word_of (fun _ _ _ _ _ _ us hl => match us, hl with | [_, _, _], _ => rfl) (fun vs H Q E h => ?_) (fun cdv A outer s H vs Q E hr h => ?_)
  · obtain ⟨_, _, _, _, _, _, rfl, _⟩ := h
    rfl
  · obtain ⟨t, c, r, n, spent, cells, rfl, ht, hok, hc, hl, q⟩ := h
    refine ⟨_, (pss_cons (ps_match (pv 0) (pm_cons sc_word_of.nd (pp_seq rfl (pq_cons pp_str (pq_cons (pp_name (i := 3) rfl (Or.inl rfl)) (pq_cons (pp_name (i := 4) rfl (Or.inl rfl)) pq_nil)))) (pss_one (ps_ret (pe_tup (pa_cons pe_str (pa_cons (pv 4) (pa_cons (pv 3) pa_nil))))))
      (pm_cons sc_word_of.nd (pp_seq rfl (pq_cons pp_str (pq_cons (pp_name (i := 4) rfl (Or.inl rfl)) (pq_cons (pp_name (i := 3) rfl (Or.inl rfl)) pq_nil)))) (pss_one (ps_ret (pe_tup (pa_cons pe_str (pa_cons (pv 4) (pa_cons (pv 3) pa_nil))))))
      (pm_cons sc_word_of.nd (pp_seq rfl (pq_cons pp_str (pq_cons (pp_name (i := 3) rfl (Or.inl rfl)) (pq_cons (pp_name (i := 5) rfl (Or.inl rfl)) pq_nil)))) (pss_one (ps_ret (pe_tup (pa_cons pe_str (pa_cons (pe_ix ix_list (pv 2) (pv 5) (fun _ _ => rfl)) (pa_cons (pv 3) pa_nil))))))
      (pm_cons sc_word_of.nd (pp_seq rfl (pq_cons pp_str (pq_cons (pp_name (i := 5) rfl (Or.inl rfl)) (pq_cons (pp_name (i := 3) rfl (Or.inl rfl)) pq_nil)))) (pss_one (ps_ret (pe_tup (pa_cons pe_str (pa_cons (pe_ix ix_list (pv 2) (pv 5) (fun _ _ => rfl)) (pa_cons (pv 3) pa_nil))))))
      (pm_cons sc_word_of.nd (pp_seq rfl (pq_cons pp_str (pq_cons (pp_name (i := 3) rfl (Or.inl rfl)) (pq_cons (pp_name (i := 4) rfl (Or.inl rfl)) pq_nil)))) (pss_one (ps_ret (pe_tup (pa_cons pe_str (pa_cons (pe_op op_add (pv 4) (pv 1)) (pa_cons (pe_op op_add (pv 3) (pv 1)) pa_nil))))))
      (pm_cons sc_word_of.nd (pp_seq rfl (pq_cons pp_str (pq_cons (pp_name (i := 4) rfl (Or.inl rfl)) (pq_cons (pp_name (i := 3) rfl (Or.inl rfl)) pq_nil)))) (pss_one (ps_ret (pe_tup (pa_cons pe_str (pa_cons (pe_op op_add (pv 4) (pv 1)) (pa_cons (pe_op op_add (pv 3) (pv 1)) pa_nil))))))
      pm_nil)))))))
      (pss_one (ps_ret pe_non))), ?_⟩
    have three : ([V.non, .non, .non] : List V).length ≤ sizeLine := by show 3 ≤ sizeLine; decide
    cases r
    all_goals
      have ht2 := ht
      refine ⟨_, rfl, ?_⟩
      repeat (first | refine tm_hit2 ht2 ?_ | refine tm_len ht2 (Nat.ne_of_beq_eq_false rfl) ?_ | refine tm_str ht2 rfl (by decide +kernel) ?_)
    case get r a =>
      exact ⟨_, rfl, _, rfl, three, fun p hp => q _ _ (Same.new (Same.refl H) hp) ⟨p, rfl, hp, upd_same⟩⟩
    case put a r =>
      exact ⟨_, rfl, _, rfl, three, fun p hp => q _ _ (Same.new (Same.refl H) hp) ⟨p, rfl, hp, upd_same⟩⟩
    case getx r x =>
      exact ⟨_, rfl, _, rfl, _, _, _, _, rfl, rfl, SqL.of hc, at_int hok.2.1 (by have := hok.2.2; omega), _, rfl, three, fun p hp => q _ _ (Same.new (Same.refl H) hp) ⟨p, rfl, hp, upd_same⟩⟩
    case putx x r =>
      exact ⟨_, rfl, _, rfl, _, _, _, _, rfl, rfl, SqL.of hc, at_int hok.1.1 (by have := hok.1.2; omega), _, rfl, three, fun p hp => q _ _ (Same.new (Same.refl H) hp) ⟨p, rfl, hp, upd_same⟩⟩
    case pair r a =>
      exact ⟨_, rfl, _, rfl, _, _, rfl, rfl, _, rfl, _, rfl, _, _, rfl, rfl, three, fun p hp => q _ _ (Same.new (Same.refl H) hp) ⟨p, rfl, hp, upd_same⟩⟩
    case lay a r =>
      exact ⟨_, rfl, _, rfl, _, _, rfl, rfl, _, rfl, _, rfl, _, _, rfl, rfl, three, fun p hp => q _ _ (Same.new (Same.refl H) hp) ⟨p, rfl, hp, upd_same⟩⟩
    all_goals exact q H .non (Same.refl H) rfl
end
end SB

set_option Elab.async false
set_option linter.all false
set_option maxRecDepth 100000
set_option maxHeartbeats 2000000
namespace SB
open PySem L2
structure MS where
  cells : List Int
  marks : List Bool
  row : Int
  spent : Int
structure ProgAt (K : PySem.W.Frag) (H : Hp) (pa : Addr) (rs : List Addr) (prog : List Row) : Prop where
  tup : SqT K H pa (rs.map V.ref)
  len : rs.length = prog.length
  at_ : ∀ (j : Nat) (t : Addr) (r : Row), rs[j]? = some t → prog[j]? = some r → SqT K H t r.vs
structure McAt (K : PySem.W.Frag) (H : Hp) (m dm pa : Addr) (rs : List Addr) (prog : List Row) (c k : Addr) (S : MS) : Prop where
  ob : H m = some (.ins (cMachine K) dm (mcF ⟨pa, c, k, S.row, S.spent⟩))
  pr : ProgAt K H pa rs prog
  hc : H c = some (.lst (S.cells.map V.int))
  hk : H k = some (.lst (S.marks.map V.bl))
  ck : c ≠ k
structure MOk (prog : List Row) (S : MS) : Prop where
  c4 : S.cells.length = 4
  m3 : S.marks.length = 3
  row0 : 0 ≤ S.row
  rown : S.row ≤ prog.length
  sp0 : 0 ≤ S.spent
  sp1 : ∀ r, prog[S.row.toNat]? = some r → S.spent < r.beats
  rows : ∀ r ∈ prog, r.ok prog.length
def wantedOf (prog : List Row) (S : MS) : Option (Str × Int × Int) := match prog[S.row.toNat]? with
  | none => none
  | some r => r.word S.spent S.cells
theorem tup_keep {K : PySem.W.Frag} {H H' : Hp} {as : List Addr} {a : Addr} {xs : List V} (h : SqT K H a xs) (k : Kept as H H') (hn : ∀ b ∈ as, ∃ u, H b = some u ∧ notTup u = true) : SqT K H' a xs := by
  rcases h with (h | ⟨o, h⟩) | h
  · refine .inl (.inl (k _ _ h fun m => ?_))
    obtain ⟨u, e, z⟩ := hn a m
    rw [h] at e
    cases e
    cases z
  · refine .inl (.inr ⟨o, k _ _ h fun m => ?_⟩)
    obtain ⟨u, e, z⟩ := hn a m
    rw [h] at e
    cases e
    cases z
  · exact .inr h
theorem ProgAt.keep {K : PySem.W.Frag} {H H' : Hp} {as : List Addr} {pa : Addr} {rs : List Addr} {prog : List Row} (h : ProgAt K H pa rs prog) (k : Kept as H H') (hn : ∀ b ∈ as, ∃ u, H b = some u ∧ notTup u = true) : ProgAt K H' pa rs prog :=
  ⟨tup_keep h.tup k hn, h.len, fun j t r e1 e2 => tup_keep (h.at_ j t r e1 e2) k hn⟩
theorem ProgAt.same {K : PySem.W.Frag} {H H' : Hp} {pa : Addr} {rs : List Addr} {prog : List Row} (h : ProgAt K H pa rs prog) (s : Same H H') : ProgAt K H' pa rs prog := h.keep (Kept.same (as := []) s) (by simp)
theorem ProgAt.get {K : PySem.W.Frag} {H : Hp} {pa : Addr} {rs : List Addr} {prog : List Row} (h : ProgAt K H pa rs prog) {j : Nat} {r : Row} (e : prog[j]? = some r) : ∃ t, rs[j]? = some t ∧ SqT K H t r.vs := by
  have h1 : j < rs.length := by rw [h.len]; exact (List.getElem?_eq_some_iff.mp e).1
  exact ⟨_, List.getElem?_eq_getElem h1, h.at_ j _ r (List.getElem?_eq_getElem h1) e⟩
theorem at_rf {rs : List Addr} {n : Int} {t : Addr} (h0 : 0 ≤ n) (h : rs[n.toNat]? = some t) : atI (rs.map V.ref) n = some (.ref t) := by
  unfold atI ixN
  have h1 : n.toNat < rs.length := (List.getElem?_eq_some_iff.mp h).1
  rw [if_pos h0, List.length_map, if_pos (by omega)]
  show (rs.map _)[n.toNat]? = _
  rw [List.getElem?_map, h]
  rfl
theorem dec_int' {x y : Int} : decide (V.int x = V.int y) = decide (x = y) := by
  by_cases z : x = y
  · rw [decide_eq_true z, decide_eq_true (by rw [z])]
  · rw [decide_eq_false z, decide_eq_false (fun y => z (V.int.inj y))]
def orS : List Str → TPat
  | [] => tpNo
  | a :: r => tpElse (tpStr a) (orS r)
section
variable {K : PySem.W.Frag} {σ : L2.St} {H : Hp} {D : Ends} {t : Addr} {i j : Nat} {b : TS} {u : TMc} {y : Str} {a c : V}
theorem orS_yes {Q : Bd → Hp → Prop} : ∀ {l : List Str}, y ∈ l → Q (some []) H → orS l (.str y) σ H Q
  | [], h, _ => by cases h
  | x :: r, h, q => by
    refine ⟨rfl, ?_⟩
    by_cases e : y = x
    · rw [if_pos (by rw [e])]
      exact q
    · rw [if_neg (fun z => e (V.str.inj z))]
      exact orS_yes (by
        rcases List.mem_cons.mp h with z | z
        · exact absurd z e
        · exact z) q
theorem orS_no {Q : Bd → Hp → Prop} : ∀ {l : List Str}, y ∉ l → Q none H → orS l (.str y) σ H Q
  | [], _, q => q
  | x :: r, h, q => by
    refine ⟨rfl, ?_⟩
    rw [if_neg (fun z => h (by rw [V.str.inj z]; exact List.mem_cons_self))]
    exact orS_no (fun z => h (List.mem_cons_of_mem _ z)) q
theorem tm_or2 {l : List Str} (ht : SqT K H t [.str y, a, c]) (hy : y ∈ l) (q : b D (bindAll [(i, a), (j, c)] σ) H) : tmCons (tpSeq K 3 (tqCons (tpOr (orS l)) (tqCons (tpName i) (tqCons (tpName j) tqNil)))) b u (.ref t) D σ H :=
  ⟨t, _, rfl, ht, iteP rfl ⟨_, _, rfl, orS_yes hy ⟨_, _, rfl, _, _, rfl, q⟩⟩⟩
theorem tm_or2n {l : List Str} {tq : TPats} {n : Nat} {xs : List V} (ht : SqT K H t (.str y :: xs)) (hn : xs.length + 1 = n) (hy : y ∉ l) (q : u (.ref t) D σ H) : tmCons (tpSeq K n (tqCons (tpOr (orS l)) tq)) b u (.ref t) D σ H :=
  ⟨t, _, rfl, ht, iteP (by simpa using hn) ⟨_, _, rfl, orS_no hy q⟩⟩
end
section
variable {P : Program} {w : World} {K : PySem.W.Frag} {mg : Str → Option Value} {base : Heap}
variable {H H' : Hp} {m dm pa c k : Addr} {rs : List Addr} {prog : List Row} {S : MS}
theorem McAt.same (M : McAt K H m dm pa rs prog c k S) (s : Same H H') : McAt K H' m dm pa rs prog c k S := ⟨s _ _ M.ob, M.pr.same s, s _ _ M.hc, s _ _ M.hk, M.ck⟩
def sp_Machine_ended (K : PySem.W.Frag) : Sp := fun vs H Q _ => ∃ (m dm pa c k : Addr) (rs : List Addr) (prog : List Row) (S : MS), vs = [.ref m] ∧ McAt K H m dm pa rs prog c k S ∧ Q (.bl (decide (S.row = prog.length))) H
theorem ok_Machine_ended (T : T w K mg) : FnR P w K mg base CX0 1 (He.ma K (He.ga K "Machine") "ended") (sp_Machine_ended K) := by
  obtain ⟨fd, F⟩ := T.f_Machine_ended
  refine F.r sc_Machine_ended (fun _ _ _ _ _ _ us hl => match us, hl with | [_], _ => rfl) (fun vs H Q E h => ?_) (fun cdv A outer s H vs Q E hr h => ?_)
  · obtain ⟨_, _, _, _, _, _, _, _, rfl, _⟩ := h
    rfl
  · obtain ⟨m, dm, pa, c, k, rs, prog, S, rfl, M, q⟩ := h
    refine ⟨_, (pss_one (ps_ret (pe_cmpR op_eq (pe_fld (pv 0) rfl) (pe_callB call_len_seq rfl T.u_len PySem.boot_len (pa_cons (pe_fld (pv 0) rfl) pa_nil)) (nomark _)))), ?_⟩
    refine ⟨_, rfl, _, _, _, _, _, rfl, M.ob, T.cl_Machine, T.n_Machine_row, mc_row _, ?_⟩
    refine ⟨_, rfl, _, _, _, _, _, rfl, M.ob, T.cl_Machine, T.n_Machine_program, mc_program _, ?_⟩
    refine ⟨_, _, rfl, .inr M.pr.tup, ?_⟩ -- len
    refine ⟨rfl, ?_⟩ -- self.row == len(self.program)
    rw [dec_int', List.length_map, M.pr.len]
    exact q
def sp_Machine_wanted (K : PySem.W.Frag) : Sp := fun vs H Q _ => ∃ (m dm pa c k : Addr) (rs : List Addr) (prog : List Row) (S : MS), vs = [.ref m] ∧ McAt K H m dm pa rs prog c k S ∧ MOk prog S ∧ ∀ H' v, Same H H' → Wtd H H' v (wantedOf prog S) → Q v H'
theorem ok_Machine_wanted (T : T w K mg) : FnR P w K mg base CX0 2 (He.ma K (He.ga K "Machine") "wanted") (sp_Machine_wanted K) := by
  have F_Machine_ended : FnR P w K mg base CX0 1 _ _ := ok_Machine_ended T
  have F_word_of : FnR P w K mg base CX0 1 _ _ := ok_word_of T
  obtain ⟨fd, F⟩ := T.f_Machine_wanted
  refine F.r sc_Machine_wanted (fun _ _ _ _ _ _ us hl => match us, hl with | [_], _ => rfl) (fun vs H Q E h => ?_) (fun cdv A outer s H vs Q E hr h => ?_)
  · obtain ⟨_, _, _, _, _, _, _, _, rfl, _⟩ := h
    rfl
  · obtain ⟨m, dm, pa, c, k, rs, prog, S, rfl, M, O, q⟩ := h
    refine ⟨_, (pss_cons (ps_if (pt_val (pe_mth0R (pv 0) T.cl_Machine T.m_Machine_ended F_Machine_ended (hr.mono (by decide))))
      (pss_one (ps_ret pe_non))
      pss_nil)
      (pss_one (ps_ret (pe_callR F_word_of (hr.mono (by decide)) rfl T.g_word_of T.k_word_of (pa_cons (pe_ix ix_tup (pe_fld (pv 0) rfl) (pe_fld (pv 0) rfl) (fun _ _ => rfl)) (pa_cons (pe_fld (pv 0) rfl) (pa_cons (pe_fld (pv 0) rfl) pa_nil))))))), ?_⟩
    refine ⟨_, rfl, ?_⟩ -- self
    refine ⟨_, _, _, rfl, M.ob, mc_no_ended _, ?_⟩
    refine ⟨m, dm, pa, c, k, rs, prog, S, rfl, M, ?_⟩ -- self.ended()
    refine ⟨_, rfl, ?_⟩ -- test
    have r0 := O.row0
    have rn := O.rown
    unfold wantedOf at q
    refine ite2 (fun c1 => ?_) (fun c1 => ?_) -- if self.ended()
    · have c2 : S.row = prog.length := of_decide_eq_true c1
      have e1 : prog[S.row.toNat]? = none := List.getElem?_eq_none (by omega)
      rw [e1] at q
      exact q H _ (Same.refl H) rfl
    · have c2 : ¬ S.row = prog.length := fun z => c1 (decide_eq_true z)
      have e1 : prog[S.row.toNat]? = some prog[S.row.toNat] := List.getElem?_eq_getElem (by omega)
      rw [e1] at q
      obtain ⟨t, e2, e3⟩ := M.pr.get e1
      refine ⟨_, rfl, _, _, _, _, _, rfl, M.ob, T.cl_Machine, T.n_Machine_program, mc_program _, ?_⟩
      refine ⟨_, rfl, _, _, _, _, _, rfl, M.ob, T.cl_Machine, T.n_Machine_row, mc_row _, ?_⟩
      refine ⟨_, _, _, _, rfl, rfl, M.pr.tup, at_rf r0 e2, ?_⟩ -- self.program[self.row]
      refine ⟨_, rfl, _, _, _, _, _, rfl, M.ob, T.cl_Machine, T.n_Machine_spent, mc_spent _, ?_⟩
      refine ⟨_, rfl, _, _, _, _, _, rfl, M.ob, T.cl_Machine, T.n_Machine_cells, mc_cells _, ?_⟩
      exact ⟨t, c, _, prog.length, S.spent, S.cells, rfl, e3, O.rows _ (List.mem_of_getElem? e1), M.hc, O.c4, q⟩
def useW (z : Str) (p cl : Int) (cells ws : List Int) : List Int × List Int × Int × Int :=
  if z = "get" then (cells.set cl.toNat (ws.getD (p % ws.length).toNat 0), ws, p % ws.length, ws.getD (p % ws.length).toNat 0)
  else (cells, ws.set (p % ws.length).toNat (cells.getD cl.toNat 0), p % ws.length, cells.getD cl.toNat 0)
def sp_Machine_use_word (K : PySem.W.Frag) : Sp := fun vs H Q _ => ∃ (m dm pa c k wq lw : Addr) (row spent : Int) (cells ws : List Int) (z : Str) (p cl : Int), vs = [.ref m, .ref wq, .ref lw] ∧ H m = some (.ins (cMachine K) dm (mcF ⟨pa, c, k, row, spent⟩)) ∧
  H c = some (.lst (cells.map V.int)) ∧ H lw = some (.lst (ws.map V.int)) ∧ SqT K H wq [.str z, .int p, .int cl] ∧ c ≠ lw ∧ 0 < ws.length ∧ 0 ≤ cl ∧ cl < cells.length ∧
  ∀ H' q, H q = none → H' q = some (.tup [.str z, .int (useW z p cl cells ws).2.2.1, .int (useW z p cl cells ws).2.2.2]) → H' c = some (.lst ((useW z p cl cells ws).1.map V.int)) → H' lw = some (.lst ((useW z p cl cells ws).2.1.map V.int)) → Kept [c, lw] H H' → Q (.ref q) H'
theorem ok_Machine_use_word (T : T w K mg) : FnR P w K mg base CX0 1 (He.ma K (He.ga K "Machine") "use_word") (sp_Machine_use_word K) := by
  obtain ⟨fd, F⟩ := T.f_Machine_use_word
  refine F.r sc_Machine_use_word (fun _ _ _ _ _ _ us hl => match us, hl with | [_, _, _], _ => rfl) (fun vs H Q E h => ?_) (fun cdv A outer s H vs Q E hr h => ?_)
  · obtain ⟨_, _, _, _, _, _, _, _, _, _, _, _, _, _, rfl, _⟩ := h
    rfl
  · obtain ⟨m, dm, pa, c, k, wq, lw, row, spent, cells, ws, z, p, cl, rfl, hself, hc, hl, hT, hcl, hw, l0, l1, q⟩ := h
    obtain ⟨m0, m1⟩ := mod_rg (x := p) hw
    refine ⟨_, (pss_cons (ps_asg (pv 1) (pg_tup rfl (pgs_cons (pg_name (i := 3) sc_Machine_use_word.nd rfl (Or.inl rfl)) (pgs_cons (pg_name (i := 4) sc_Machine_use_word.nd rfl (Or.inl rfl)) (pgs_cons (pg_name (i := 5) sc_Machine_use_word.nd rfl (Or.inl rfl)) pgs_nil)))))
      (pss_cons (ps_set (i := 6) sc_Machine_use_word.nd rfl (Or.inl rfl) (pe_op op_mod (pv 4) (pe_callB call_len_seq rfl T.u_len PySem.boot_len (pa_cons (pv 2) pa_nil))))
      (pss_cons (ps_if (pt_cmpR op_eq (pv 3) pe_str (nomark _))
      (pss_one (ps_asg (pe_ix ix_list (pv 2) (pv 6) (fun _ _ => rfl)) (pg_sub (pe_fld (pv 0) rfl) (pv 5) set_list)))
      (pss_one (ps_asg (pe_ix ix_list (pe_fld (pv 0) rfl) (pv 5) (fun _ _ => rfl)) (pg_sub (pv 2) (pv 6) set_list))))
      (pss_one (ps_ret (pe_tup (pa_cons (pv 3) (pa_cons (pv 6) (pa_cons (pe_ix ix_list (pv 2) (pv 6) (fun _ _ => rfl)) pa_nil))))))))), ?_⟩
    refine ⟨_, rfl, ?_⟩ -- wanted
    refine ⟨_, _, rfl, hT, rfl, _, _, rfl, _, _, rfl, _, _, rfl, rfl, ?_⟩ -- deed, place, cell = wanted
    refine ⟨_, rfl, ?_⟩ -- place
    refine ⟨_, rfl, ?_⟩ -- words
    refine ⟨_, _, rfl, .inl (SqL.of hl), ?_⟩ -- len
    rw [List.length_map]
    refine ⟨_, _, rfl, rfl, (by omega), ?_⟩ -- place % len(words)
    refine ⟨_, rfl, ?_⟩ -- deed
    refine ⟨rfl, ?_⟩ -- deed == 'get'
    refine ⟨_, rfl, ?_⟩ -- test
    rw [dec_str]
    have three : ([V.non, .non, .non] : List V).length ≤ sizeLine := by show 3 ≤ sizeLine; decide
    by_cases g : z = "get"
    · rw [decide_eq_true g]
      have eu : useW z p cl cells ws = (cells.set cl.toNat (ws.getD (p % ws.length).toNat 0), ws, p % ws.length, ws.getD (p % ws.length).toNat 0) := by unfold useW; rw [if_pos g]
      rw [eu] at q
      refine iteT ?_
      refine ⟨_, rfl, ?_⟩ -- words
      refine ⟨_, rfl, ?_⟩ -- address
      refine ⟨_, _, _, _, rfl, rfl, SqL.of hl, at_int m0 m1, ?_⟩ -- words[address]
      refine ⟨_, rfl, _, _, _, _, _, rfl, hself, T.cl_Machine, T.n_Machine_cells, mc_cells _, ?_⟩
      refine ⟨_, rfl, ?_⟩ -- cell
      refine ⟨_, _, _, _, rfl, rfl, hc, ix_ok l0 (by rw [List.length_map]; exact l1), ?_⟩ -- self.cells[cell] = words[address]
      rw [set_int]
      have hl2 : upd H c (.lst ((cells.set cl.toNat (ws.getD (p % ws.length).toNat 0)).map V.int)) lw = some (.lst (ws.map V.int)) := by rw [upd_ne (Ne.symm hcl)]; exact hl
      refine ⟨_, rfl, ?_⟩ -- deed
      refine ⟨_, rfl, ?_⟩ -- address
      refine ⟨_, rfl, ?_⟩ -- words
      refine ⟨_, rfl, ?_⟩ -- address
      refine ⟨_, _, _, _, rfl, rfl, SqL.of hl2, at_int m0 m1, ?_⟩ -- words[address]
      refine ⟨three, fun y hy => ?_⟩
      have yc : y ≠ c := fun e => by rw [e, upd_same] at hy; cases hy
      rw [upd_ne yc] at hy
      exact q _ y hy upd_same (by rw [upd_ne (Ne.symm yc)]; exact upd_same) (by rw [upd_ne (ne_of_none hl hy)]; exact hl2) (((Kept.refl _ H).put (by simp)).new hy)
    · rw [decide_eq_false g]
      have eu : useW z p cl cells ws = (cells, ws.set (p % ws.length).toNat (cells.getD cl.toNat 0), p % ws.length, cells.getD cl.toNat 0) := by unfold useW; rw [if_neg g]
      rw [eu] at q
      refine iteF ?_
      refine ⟨_, rfl, _, _, _, _, _, rfl, hself, T.cl_Machine, T.n_Machine_cells, mc_cells _, ?_⟩
      refine ⟨_, rfl, ?_⟩ -- cell
      refine ⟨_, _, _, _, rfl, rfl, SqL.of hc, at_int l0 l1, ?_⟩ -- self.cells[cell]
      refine ⟨_, rfl, ?_⟩ -- words
      refine ⟨_, rfl, ?_⟩ -- address
      refine ⟨_, _, _, _, rfl, rfl, hl, ix_ok m0 (by rw [List.length_map]; exact m1), ?_⟩ -- words[address] = self.cells[cell]
      rw [set_int]
      refine ⟨_, rfl, ?_⟩ -- deed
      refine ⟨_, rfl, ?_⟩ -- address
      refine ⟨_, rfl, ?_⟩ -- words
      refine ⟨_, rfl, ?_⟩ -- address
      have hlt : (p % ws.length).toNat < ws.length := by omega
      have hat : atI ((ws.set (p % ws.length).toNat (cells.getD cl.toNat 0)).map V.int) (p % ws.length) = some (.int (cells.getD cl.toNat 0)) := by
        rw [at_int m0 (by rw [List.length_set]; exact m1)]
        simp [List.getD, List.getElem?_set_self hlt]
      refine ⟨_, _, _, _, rfl, rfl, SqL.of upd_same, hat, ?_⟩ -- words[address]
      refine ⟨three, fun y hy => ?_⟩
      have yl : y ≠ lw := fun e => by rw [e, upd_same] at hy; cases hy
      rw [upd_ne yl] at hy
      exact q _ y hy upd_same (by rw [upd_ne (ne_of_none hc hy), upd_ne hcl]; exact hc) (by rw [upd_ne (Ne.symm yl)]; exact upd_same) (((Kept.refl _ H).put (by simp)).new hy)
def reck (z : Str) (worth other : Int) (cells : List Int) (ks : List Wk) : Int :=
  if z = "set" then other else if z = "done" then (if isOn ks other = true then 0 else 1) else if z = "add" then (worth + cells.getD other.toNat 0) % 1000 else if worth < cells.getD other.toNat 0 then 1 else 0
def sp_Machine_reckoned (K : PySem.W.Frag) : Sp := fun vs H Q _ => ∃ (m dm pa c k : Addr) (a : DA) (row spent : Int) (cells : List Int) (ks : List Wk) (took : Bool) (g : GH) (z : Str) (worth other : Int), vs = [.ref m, .str z, .int worth, .int other, .ref a.d] ∧
  H m = some (.ins (cMachine K) dm (mcF ⟨pa, c, k, row, spent⟩)) ∧ H c = some (.lst (cells.map V.int)) ∧ DevAt K H a ks took g ∧ 0 ≤ other ∧ (z = "set" ∨ z = "done" ∨ other < cells.length) ∧ Q (.int (reck z worth other cells ks)) H
theorem ok_Machine_reckoned (T : T w K mg) : FnR P w K mg base CX0 2 (He.ma K (He.ga K "Machine") "reckoned") (sp_Machine_reckoned K) := by
  have F_Device_is_on : FnR P w K mg base CX0 1 _ _ := ok_Device_is_on T
  obtain ⟨tw, g_WORTHS⟩ := T.i_WORTHS
  obtain ⟨fd, F⟩ := T.f_Machine_reckoned
  refine F.r sc_Machine_reckoned (fun _ _ _ _ _ _ us hl => match us, hl with | [_, _, _, _, _], _ => rfl) (fun vs H Q E h => ?_) (fun cdv A outer s H vs Q E hr h => ?_)
  · obtain ⟨_, _, _, _, _, _, _, _, _, _, _, _, _, _, _, rfl, _⟩ := h
    rfl
  · obtain ⟨m, dm, pa, c, k, a, row, spent, cells, ks, took, g, z, worth, other, rfl, hself, hc, D, o0, o1, q⟩ := h
    refine ⟨_, (pss_cons (ps_if (pt_cmpR op_eq (pv 1) pe_str (nomark _))
      (pss_one (ps_ret (pv 3)))
      pss_nil)
      (pss_cons (ps_if (pt_cmpR op_eq (pv 1) pe_str (nomark _))
      (pss_one (ps_ret (pe_ifExp (pt_val (pe_mthR (pv 4) T.cl_Device T.m_Device_is_on F_Device_is_on (hr.mono (by decide)) (pa_cons (pv 3) pa_nil))) pe_int pe_int)))
      pss_nil)
      (pss_cons (ps_if (pt_cmpR op_eq (pv 1) pe_str (nomark _))
      (pss_one (ps_ret (pe_op op_mod (pe_op op_add (pv 2) (pe_ix ix_list (pe_fld (pv 0) rfl) (pv 3) (fun _ _ => rfl))) (pe_glob (v := .int 1000) rfl g_WORTHS ⟨_, rfl⟩))))
      pss_nil)
      (pss_one (ps_ret (pe_ifExp (pt_cmpR op_lt (pv 2) (pe_ix ix_list (pe_fld (pv 0) rfl) (pv 3) (fun _ _ => rfl)) (nomark _)) pe_int pe_int)))))), ?_⟩
    unfold reck at q
    refine ⟨_, rfl, ?_⟩ -- deed
    refine ⟨rfl, ?_⟩ -- deed == 'set'
    refine ⟨_, rfl, ?_⟩ -- test
    rw [dec_str]
    by_cases g1 : z = "set"
    · rw [if_pos g1] at q
      rw [decide_eq_true g1]
      exact iteT ⟨_, rfl, q⟩
    · rw [if_neg g1] at q
      rw [decide_eq_false g1]
      refine iteF ?_
      refine ⟨_, rfl, ?_⟩ -- deed
      refine ⟨rfl, ?_⟩ -- deed == 'done'
      refine ⟨_, rfl, ?_⟩ -- test
      rw [dec_str]
      by_cases g2 : z = "done"
      · rw [if_pos g2] at q
        rw [decide_eq_true g2]
        refine iteT ?_
        refine ⟨_, rfl, ?_⟩ -- device
        refine ⟨_, _, _, rfl, D.ob, dv_no_is_on _, ?_⟩
        refine ⟨_, rfl, ?_⟩ -- other
        refine ⟨a, ks, took, g, other, rfl, D, o0, ?_⟩ -- device.is_on(other)
        refine ⟨_, rfl, ?_⟩ -- test
        cases ho : isOn ks other with
        | true => rw [ho] at q; exact iteT q
        | false => rw [ho] at q; exact iteF q
      · rw [if_neg g2] at q
        rw [decide_eq_false g2]
        have o2 : other < cells.length := by
          rcases o1 with y | y | y
          · exact absurd y g1
          · exact absurd y g2
          · exact y
        refine iteF ?_
        refine ⟨_, rfl, ?_⟩ -- deed
        refine ⟨rfl, ?_⟩ -- deed == 'add'
        refine ⟨_, rfl, ?_⟩ -- test
        rw [dec_str]
        by_cases g3 : z = "add"
        · rw [if_pos g3] at q
          rw [decide_eq_true g3]
          refine iteT ?_
          refine ⟨_, rfl, ?_⟩ -- worth
          refine ⟨_, rfl, _, _, _, _, _, rfl, hself, T.cl_Machine, T.n_Machine_cells, mc_cells _, ?_⟩
          refine ⟨_, rfl, ?_⟩ -- other
          refine ⟨_, _, _, _, rfl, rfl, SqL.of hc, at_int o0 o2, ?_⟩ -- self.cells[other]
          refine ⟨_, _, rfl, rfl, ?_⟩ -- worth + self.cells[other]
          exact ⟨_, _, rfl, rfl, (by show (0 : Int) < 1000; decide), q⟩ -- (worth + self.cells[other]) % WORTHS
        · rw [if_neg g3] at q
          rw [decide_eq_false g3]
          refine iteF ?_
          refine ⟨_, rfl, ?_⟩ -- worth
          refine ⟨_, rfl, _, _, _, _, _, rfl, hself, T.cl_Machine, T.n_Machine_cells, mc_cells _, ?_⟩
          refine ⟨_, rfl, ?_⟩ -- other
          refine ⟨_, _, _, _, rfl, rfl, SqL.of hc, at_int o0 o2, ?_⟩ -- self.cells[other]
          refine ⟨_, _, rfl, rfl, ?_⟩ -- worth < self.cells[other]
          refine ⟨_, rfl, ?_⟩ -- test
          refine ite2 (fun c1 => ?_) (fun c1 => ?_)
          · rw [if_pos (of_decide_eq_true c1)] at q
            exact q
          · rw [if_neg (fun y => c1 (decide_eq_true y))] at q
            exact q
end
end SB

set_option Elab.async false
set_option linter.all false
set_option maxRecDepth 100000
set_option maxHeartbeats 2000000
namespace SB
open PySem L2
def eff (n : Nat) (S : MS) (ks : List Wk) : Row → MS × List Wk
  | .go t => ({ S with row := t, spent := 0 }, ks)
  | .iff r t => ({ S with row := if S.cells.getD r.toNat 0 = 0 then S.row + 1 else t, spent := 0 }, ks)
  | .fin => ({ S with row := n, spent := 0 }, ks)
  | .ask x => ({ S with row := S.row + 1, spent := 0 }, ks.modify x.toNat Wk.start)
  | .mark x => ({ S with row := S.row + 1, spent := 0, marks := S.marks.set x.toNat true }, ks)
  | .clear x => ({ S with row := S.row + 1, spent := 0, marks := S.marks.set x.toNat false }, ks)
  | .set r x => ({ S with row := S.row + 1, spent := 0, cells := S.cells.set r.toNat (reck "set" (S.cells.getD r.toNat 0) x S.cells ks) }, ks)
  | .add r x => ({ S with row := S.row + 1, spent := 0, cells := S.cells.set r.toNat (reck "add" (S.cells.getD r.toNat 0) x S.cells ks) }, ks)
  | .less r x => ({ S with row := S.row + 1, spent := 0, cells := S.cells.set r.toNat (reck "less" (S.cells.getD r.toNat 0) x S.cells ks) }, ks)
  | .done r x => ({ S with row := S.row + 1, spent := 0, cells := S.cells.set r.toNat (reck "done" (S.cells.getD r.toNat 0) x S.cells ks) }, ks)
  | _ => ({ S with row := S.row + 1, spent := 0 }, ks)
def effG (g : GH) : Row → GH
  | .ask x => g.start x.toNat
  | _ => g
section
variable {P : Program} {w : World} {K : PySem.W.Frag} {mg : Str → Option Value} {base : Heap}
variable {H H' : Hp} {m dm pa c k : Addr} {a a' : DA} {rs : List Addr} {prog : List Row} {S : MS} {ks : List Wk} {took : Bool} {g : GH}
theorem McAt.setM (M : McAt K H m dm pa rs prog c k S) (row spent : Int) : McAt K (upd H m (.ins (cMachine K) dm (mcF ⟨pa, c, k, row, spent⟩))) m dm pa rs prog c k { S with row := row, spent := spent } := by
  have hc : c ≠ m := ne_of M.hc M.ob (by intro z; cases z)
  have hk : k ≠ m := ne_of M.hk M.ob (by intro z; cases z)
  refine ⟨upd_same, M.pr.keep (as := [m]) ((Kept.refl _ H).put (by simp)) (fun b hb => ?_), by rw [upd_ne hc]; exact M.hc, by rw [upd_ne hk]; exact M.hk, M.ck⟩
  have e : b = m := by simpa using hb
  rw [e]
  exact ⟨_, M.ob, rfl⟩
theorem McAt.setC (M : McAt K H m dm pa rs prog c k S) (cells : List Int) : McAt K (upd H c (.lst (cells.map V.int))) m dm pa rs prog c k { S with cells := cells } := by
  have hc : m ≠ c := ne_of M.ob M.hc (by intro z; cases z)
  refine ⟨by rw [upd_ne hc]; exact M.ob, M.pr.keep (as := [c]) ((Kept.refl _ H).put (by simp)) (fun b hb => ?_), upd_same, by rw [upd_ne (Ne.symm M.ck)]; exact M.hk, M.ck⟩
  have e : b = c := by simpa using hb
  rw [e]
  exact ⟨_, M.hc, rfl⟩
theorem McAt.setK (M : McAt K H m dm pa rs prog c k S) (marks : List Bool) : McAt K (upd H k (.lst (marks.map V.bl))) m dm pa rs prog c k { S with marks := marks } := by
  have hc : m ≠ k := ne_of M.ob M.hk (by intro z; cases z)
  refine ⟨by rw [upd_ne hc]; exact M.ob, M.pr.keep (as := [k]) ((Kept.refl _ H).put (by simp)) (fun b hb => ?_), by rw [upd_ne M.ck]; exact M.hc, upd_same, M.ck⟩
  have e : b = k := by simpa using hb
  rw [e]
  exact ⟨_, M.hk, rfl⟩
theorem McAt.stay (M : McAt K H m dm pa rs prog c k S) {as : List Addr} (kp : Kept as H H') (h : ∀ b ∈ [m, c, k], b ∉ as) (hn : ∀ b ∈ as, ∃ u, H b = some u ∧ notTup u = true) : McAt K H' m dm pa rs prog c k S :=
  ⟨kp _ _ M.ob (h m (by simp)), M.pr.keep kp hn, kp _ _ M.hc (h c (by simp)), kp _ _ M.hk (h k (by simp)), M.ck⟩
def sp_Machine_finish (K : PySem.W.Frag) : Sp := fun vs H Q _ => ∃ (m dm pa c k t : Addr) (a : DA) (rs : List Addr) (prog : List Row) (S : MS) (ks : List Wk) (took : Bool) (g : GH) (r : Row), vs = [.ref m, .ref t, .ref a.d] ∧
  McAt K H m dm pa rs prog c k S ∧ DevAt K H a ks took g ∧ (∀ b ∈ [m, c, k], b ∉ a.foot) ∧ SqT K H t r.vs ∧ r.ok prog.length ∧ S.cells.length = 4 ∧ S.marks.length = 3 ∧ g.G.length < g.nb + 1000 ∧
  ∀ H' a', DLe a a' → McAt K H' m dm pa rs prog c k (eff prog.length S ks r).1 → DevAt K H' a' (eff prog.length S ks r).2 took (effG g r) → Stp [m, c, k] a.foot H a'.foot H' → Q .non H'
theorem set_bl {ms : List Bool} {j : Nat} {x : Bool} : (ms.map V.bl).set j (.bl x) = (ms.set j x).map V.bl := by rw [List.map_set]
theorem ok_Machine_finish (T : T w K mg) : FnR P w K mg base CX0 4 (He.ma K (He.ga K "Machine") "finish") (sp_Machine_finish K) := by
  have F_Device_start : FnR P w K mg base CX0 3 _ _ := ok_Device_start T
  have F_Machine_reckoned : FnR P w K mg base CX0 2 _ _ := ok_Machine_reckoned T
  obtain ⟨fd, F⟩ := T.f_Machine_finish
  refine F.r sc_Machine_finish (fun _ _ _ _ _ _ us hl => match us, hl with | [_, _, _], _ => rfl) (fun vs H Q E h => ?_) (fun cdv A outer s H vs Q E hr h => ?_)
  · obtain ⟨_, _, _, _, _, _, _, _, _, _, _, _, _, _, rfl, _⟩ := h
    rfl
  · obtain ⟨m, dm, pa, c, k, t, a, rs, prog, S, ks, took, g, r, rfl, M, D, A', ht, rok, c4, m3, hgl, q⟩ := h
    have am := A' m (by simp)
    have ac := A' c (by simp)
    have ak := A' k (by simp)
    refine ⟨_, (pss_cons (ps_fld (pv 0) pe_int rfl)
      (pss_cons (ps_fldaug (pv 0) pe_int in_add)
      (pss_one (ps_match (pv 1) (pm_cons sc_Machine_finish.nd (pp_seq rfl (pq_cons pp_str (pq_cons (pp_name (i := 3) rfl (Or.inl rfl)) pq_nil))) (pss_one (ps_fld (pv 0) (pv 3) rfl))
      (pm_cons sc_Machine_finish.nd (pp_seq rfl (pq_cons pp_str (pq_cons (pp_name (i := 4) rfl (Or.inl rfl)) (pq_cons (pp_name (i := 3) rfl (Or.inl rfl)) pq_nil)))) (pss_one (ps_if (pt_cmpR op_ne (pe_ix ix_list (pe_fld (pv 0) rfl) (pv 4) (fun _ _ => rfl)) pe_int (nomark _))
      (pss_one (ps_fld (pv 0) (pv 3) rfl))
      pss_nil))
      (pm_cons sc_Machine_finish.nd (pp_seq rfl (pq_cons pp_str pq_nil)) (pss_one (ps_fld (pv 0) (pe_callB call_len_seq rfl T.u_len PySem.boot_len (pa_cons (pe_fld (pv 0) rfl) pa_nil)) rfl))
      (pm_cons sc_Machine_finish.nd (pp_seq rfl (pq_cons pp_str (pq_cons (pp_name (i := 5) rfl (Or.inl rfl)) pq_nil))) (pss_one (ps_expr (pe_mthR (pv 2) T.cl_Device T.m_Device_start F_Device_start (hr.mono (by decide)) (pa_cons (pv 5) pa_nil))))
      (pm_cons sc_Machine_finish.nd (pp_seq rfl (pq_cons pp_str (pq_cons (pp_name (i := 6) rfl (Or.inl rfl)) pq_nil))) (pss_one (ps_asg pe_bl (pg_sub (pe_fld (pv 0) rfl) (pv 6) set_list)))
      (pm_cons sc_Machine_finish.nd (pp_seq rfl (pq_cons pp_str (pq_cons (pp_name (i := 6) rfl (Or.inl rfl)) pq_nil))) (pss_one (ps_asg pe_bl (pg_sub (pe_fld (pv 0) rfl) (pv 6) set_list)))
      (pm_cons sc_Machine_finish.nd (pp_seq rfl (pq_cons (pp_or (pf_cons pp_str (pf_cons pp_str (pf_cons pp_str (pf_cons pp_str pf_nil))))) (pq_cons (pp_name (i := 4) rfl (Or.inl rfl)) (pq_cons (pp_name (i := 7) rfl (Or.inl rfl)) pq_nil)))) (pss_one (ps_asg (pe_mthR (pv 0) T.cl_Machine T.m_Machine_reckoned F_Machine_reckoned (hr.mono (by decide)) (pa_cons (pe_ix ix_tup (pv 1) pe_int (fun _ _ => rfl)) (pa_cons (pe_ix ix_list (pe_fld (pv 0) rfl) (pv 4) (fun _ _ => rfl)) (pa_cons (pv 7) (pa_cons (pv 2) pa_nil))))) (pg_sub (pe_fld (pv 0) rfl) (pv 4) set_list)))
      pm_nil))))))))))), ?_⟩
    refine stf M.ob T.cl_Machine T.n_Machine_spent (mc_len _) (mc_put_spent _ _) ?_ -- self.spent = 0
    refine augf upd_same T.cl_Machine T.n_Machine_row (mc_row _) (mc_len _) (mc_put_row _ _) ?_ -- self.row += 1
    rw [upd_upd]
    have M1 : McAt K (upd H m (.ins (cMachine K) dm (mcF ⟨pa, c, k, S.row + 1, 0⟩))) m dm pa rs prog c k { S with row := S.row + 1, spent := 0 } := M.setM _ _
    have D1 : DevAt K (upd H m (.ins (cMachine K) dm (mcF ⟨pa, c, k, S.row + 1, 0⟩))) a ks took g := D.upd M.ob rfl am
    have k1 : Kept (m :: c :: k :: a.foot) H (upd H m (.ins (cMachine K) dm (mcF ⟨pa, c, k, S.row + 1, 0⟩))) := (Kept.refl _ H).put (by simp)
    have f1 : ∀ b, upd H m (.ins (cMachine K) dm (mcF ⟨pa, c, k, S.row + 1, 0⟩)) b = none → H b = none := fun b h => upd_none h
    have ht1 : SqT K (upd H m (.ins (cMachine K) dm (mcF ⟨pa, c, k, S.row + 1, 0⟩))) t r.vs := tup_keep ht (as := [m]) ((Kept.refl _ H).put (by simp)) (fun b hb => by
      have e : b = m := by simpa using hb
      rw [e]
      exact ⟨_, M.ob, rfl⟩)
    generalize upd H m (.ins (cMachine K) dm (mcF ⟨pa, c, k, S.row + 1, 0⟩)) = H1 at M1 D1 k1 ht1 f1
    have inC : c ∈ m :: c :: k :: a.foot := by simp
    have inK : k ∈ m :: c :: k :: a.foot := by simp
    have inM : m ∈ m :: c :: k :: a.foot := by simp
    have cell : ∀ (z : Str) (r0 x : Int) (σ : L2.St), σ[0]? = some (some (.ref m)) → σ[4]? = some (some (.int r0)) → rg 0 3 r0 →
        (∀ H' a', DLe a a' → McAt K H' m dm pa rs prog c k { S with row := S.row + 1, spent := 0, cells := S.cells.set r0.toNat (reck z (S.cells.getD r0.toNat 0) x S.cells ks) } → DevAt K H' a' ks took g → Stp [m, c, k] a.foot H a'.foot H' → Q .non H') →
        gSub (tFld K (tVar 0) "cells") (tVar 4) rSetL (.int (reck z (S.cells.getD r0.toNat 0) x S.cells ks)) σ H1 (fun _ H' => Q .non H') := by
      intro z r0 x σ h0 h4 hr0 q'
      refine ⟨_, h0, _, _, _, _, _, rfl, M1.ob, T.cl_Machine, T.n_Machine_cells, mc_cells _, ?_⟩
      refine ⟨_, h4, ?_⟩
      refine ⟨_, _, _, _, rfl, rfl, M1.hc, ix_ok hr0.1 (by rw [List.length_map]; show r0 < (S.cells.length : Int); rw [c4]; have := hr0.2; omega), ?_⟩
      rw [set_int]
      exact q' _ a (DLe.refl _) (M1.setC _) (D1.upd M1.hc rfl ac) (Stp.of (k1.put inC) (fun b h => f1 b (upd_none h)))
    cases r
    all_goals
      have ht2 := ht1
      refine ⟨_, rfl, ?_⟩
      repeat (first | refine tm_hit2 ht2 ?_ | refine tm_hit1 ht2 ?_ | refine tm_hit0 ht2 ?_ | refine tm_or2 (l := ["set", "add", "less", "done"]) ht2 (by decide +kernel) ?_ | refine tm_len ht2 (Nat.ne_of_beq_eq_false rfl) ?_ | refine tm_str ht2 rfl (by decide +kernel) ?_ | refine tm_or2n (l := ["set", "add", "less", "done"]) ht2 rfl (by decide +kernel) ?_)
    case go tt =>
      refine ⟨_, rfl, stf M1.ob T.cl_Machine T.n_Machine_row (mc_len _) (mc_put_row _ _) ?_⟩
      exact q _ a (DLe.refl _) (M1.setM _ _) (D1.upd M1.ob rfl am) (Stp.of (k1.put inM) (fun b h => f1 b (upd_none h)))
    case iff r0 tt =>
      refine ⟨_, rfl, _, _, _, _, _, rfl, M1.ob, T.cl_Machine, T.n_Machine_cells, mc_cells _, ?_⟩
      refine ⟨_, rfl, ?_⟩
      refine ⟨_, _, _, _, rfl, rfl, SqL.of M1.hc, at_int rok.1.1 (by show r0 < (S.cells.length : Int); rw [c4]; have := rok.1.2; omega), ?_⟩
      refine ⟨rfl, ?_⟩
      refine ⟨_, rfl, ?_⟩
      rw [dec_int']
      by_cases e : S.cells.getD r0.toNat 0 = 0
      · rw [decide_eq_true e]
        refine iteF ?_
        have e2 : (eff prog.length S ks (.iff r0 tt)).1 = { S with row := S.row + 1, spent := 0 } := by
          show ({ S with row := if S.cells.getD r0.toNat 0 = 0 then S.row + 1 else tt, spent := 0 } : MS) = _
          rw [if_pos e]
        exact q _ a (DLe.refl _) (by rw [e2]; exact M1) D1 (Stp.of k1 f1)
      · rw [decide_eq_false e]
        refine iteT ?_
        have e2 : (eff prog.length S ks (.iff r0 tt)).1 = { S with row := tt, spent := 0 } := by
          show ({ S with row := if S.cells.getD r0.toNat 0 = 0 then S.row + 1 else tt, spent := 0 } : MS) = _
          rw [if_neg e]
        refine ⟨_, rfl, stf M1.ob T.cl_Machine T.n_Machine_row (mc_len _) (mc_put_row _ _) ?_⟩
        exact q _ a (DLe.refl _) (by rw [e2]; exact M1.setM _ _) (D1.upd M1.ob rfl am) (Stp.of (k1.put inM) (fun b h => f1 b (upd_none h)))
    case fin =>
      refine ⟨_, rfl, _, _, _, _, _, rfl, M1.ob, T.cl_Machine, T.n_Machine_program, mc_program _, ?_⟩
      refine ⟨_, _, rfl, .inr M1.pr.tup, ?_⟩
      refine stf M1.ob T.cl_Machine T.n_Machine_row (mc_len _) (mc_put_row _ _) ?_
      have el : ((rs.map V.ref).length : Int) = (prog.length : Int) := by rw [List.length_map, M1.pr.len]
      refine q _ a (DLe.refl _) ?_ (D1.upd M1.ob rfl am) (Stp.of (k1.put inM) (fun b h => f1 b (upd_none h)))
      rw [el]
      exact M1.setM _ _
    case ask x =>
      refine ⟨_, rfl, ?_⟩
      refine ⟨_, _, _, rfl, D1.ob, dv_no_start _, ?_⟩
      refine ⟨_, rfl, ?_⟩
      refine ⟨a, ks, took, g, x, rfl, D1, rok.1, hgl, fun H2 a2 ad2 D2 s2 => ?_⟩
      exact q _ a2 ad2 (M1.stay s2.kp A' D1.inF) D2 ((Stp.of k1 f1).trans (s2.more [m, c, k]))
    case mark x =>
      refine ⟨_, rfl, _, _, _, _, _, rfl, M1.ob, T.cl_Machine, T.n_Machine_marks, mc_marks _, ?_⟩
      refine ⟨_, rfl, ?_⟩
      refine ⟨_, _, _, _, rfl, rfl, M1.hk, ix_ok rok.1 (by rw [List.length_map]; show x < (S.marks.length : Int); rw [m3]; have := rok.2; omega), ?_⟩
      rw [set_bl]
      exact q _ a (DLe.refl _) (M1.setK _) (D1.upd M1.hk rfl ak) (Stp.of (k1.put inK) (fun b h => f1 b (upd_none h)))
    case clear x =>
      refine ⟨_, rfl, _, _, _, _, _, rfl, M1.ob, T.cl_Machine, T.n_Machine_marks, mc_marks _, ?_⟩
      refine ⟨_, rfl, ?_⟩
      refine ⟨_, _, _, _, rfl, rfl, M1.hk, ix_ok rok.1 (by rw [List.length_map]; show x < (S.marks.length : Int); rw [m3]; have := rok.2; omega), ?_⟩
      rw [set_bl]
      exact q _ a (DLe.refl _) (M1.setK _) (D1.upd M1.hk rfl ak) (Stp.of (k1.put inK) (fun b h => f1 b (upd_none h)))
    case set r0 x =>
      refine ⟨_, rfl, _, _, _, rfl, M1.ob, mc_no_reckoned _, ?_⟩
      refine ⟨_, rfl, _, _, _, _, rfl, rfl, ht1, rfl, ?_⟩
      refine ⟨_, rfl, _, _, _, _, _, rfl, M1.ob, T.cl_Machine, T.n_Machine_cells, mc_cells _, ?_⟩
      refine ⟨_, rfl, ?_⟩
      refine ⟨_, _, _, _, rfl, rfl, SqL.of M1.hc, at_int rok.1.1 (by show r0 < (S.cells.length : Int); rw [c4]; have := rok.1.2; omega), ?_⟩
      refine ⟨_, rfl, _, rfl, ?_⟩
      refine ⟨m, dm, pa, c, k, a, _, _, S.cells, ks, took, g, _, _, x, rfl, M1.ob, M1.hc, D1, rok.2.1, .inl rfl, ?_⟩
      exact cell _ r0 x _ rfl rfl rok.1 q
    case add r0 x =>
      refine ⟨_, rfl, _, _, _, rfl, M1.ob, mc_no_reckoned _, ?_⟩
      refine ⟨_, rfl, _, _, _, _, rfl, rfl, ht1, rfl, ?_⟩
      refine ⟨_, rfl, _, _, _, _, _, rfl, M1.ob, T.cl_Machine, T.n_Machine_cells, mc_cells _, ?_⟩
      refine ⟨_, rfl, ?_⟩
      refine ⟨_, _, _, _, rfl, rfl, SqL.of M1.hc, at_int rok.1.1 (by show r0 < (S.cells.length : Int); rw [c4]; have := rok.1.2; omega), ?_⟩
      refine ⟨_, rfl, _, rfl, ?_⟩
      refine ⟨m, dm, pa, c, k, a, _, _, S.cells, ks, took, g, _, _, x, rfl, M1.ob, M1.hc, D1, rok.2.1, .inr (.inr (by rw [c4]; have := rok.2.2; omega)), ?_⟩
      exact cell _ r0 x _ rfl rfl rok.1 q
    case less r0 x =>
      refine ⟨_, rfl, _, _, _, rfl, M1.ob, mc_no_reckoned _, ?_⟩
      refine ⟨_, rfl, _, _, _, _, rfl, rfl, ht1, rfl, ?_⟩
      refine ⟨_, rfl, _, _, _, _, _, rfl, M1.ob, T.cl_Machine, T.n_Machine_cells, mc_cells _, ?_⟩
      refine ⟨_, rfl, ?_⟩
      refine ⟨_, _, _, _, rfl, rfl, SqL.of M1.hc, at_int rok.1.1 (by show r0 < (S.cells.length : Int); rw [c4]; have := rok.1.2; omega), ?_⟩
      refine ⟨_, rfl, _, rfl, ?_⟩
      refine ⟨m, dm, pa, c, k, a, _, _, S.cells, ks, took, g, _, _, x, rfl, M1.ob, M1.hc, D1, rok.2.1, .inr (.inr (by rw [c4]; have := rok.2.2; omega)), ?_⟩
      exact cell _ r0 x _ rfl rfl rok.1 q
    case done r0 x =>
      refine ⟨_, rfl, _, _, _, rfl, M1.ob, mc_no_reckoned _, ?_⟩
      refine ⟨_, rfl, _, _, _, _, rfl, rfl, ht1, rfl, ?_⟩
      refine ⟨_, rfl, _, _, _, _, _, rfl, M1.ob, T.cl_Machine, T.n_Machine_cells, mc_cells _, ?_⟩
      refine ⟨_, rfl, ?_⟩
      refine ⟨_, _, _, _, rfl, rfl, SqL.of M1.hc, at_int rok.1.1 (by show r0 < (S.cells.length : Int); rw [c4]; have := rok.1.2; omega), ?_⟩
      refine ⟨_, rfl, _, rfl, ?_⟩
      refine ⟨m, dm, pa, c, k, a, _, _, S.cells, ks, took, g, _, _, x, rfl, M1.ob, M1.hc, D1, rok.2.1, .inr (.inl rfl), ?_⟩
      exact cell _ r0 x _ rfl rfl rok.1 q
    all_goals exact q _ a (DLe.refl _) M1 D1 (Stp.of k1 f1)
end
end SB

set_option Elab.async false
set_option linter.all false
set_option maxRecDepth 100000
set_option maxHeartbeats 2000000
namespace SB
open PySem L2
inductive MT where
  | ends | waits | goes | word (z : Str) (a x : Int)
def tick (n : Nat) (S : MS) (ks : List Wk) (r : Row) : MS × List Wk := if S.spent = r.beats then eff n S ks r else (S, ks)
def mstep (prog : List Row) (S : MS) (ks : List Wk) (took : Bool) (ws : List Int) : MS × List Wk × List Int × MT := match prog[S.row.toNat]? with
  | none => (S, ks, ws, .ends)
  | some r => match r.word S.spent S.cells with
    | none => ((tick prog.length { S with spent := S.spent + 1 } ks r).1, (tick prog.length { S with spent := S.spent + 1 } ks r).2, ws, .goes)
    | some (z, p, cl) => if took = true then (S, ks, ws, .waits) else
      ((tick prog.length { S with cells := (useW z p cl S.cells ws).1, spent := S.spent + 1 } ks r).1, (tick prog.length { S with cells := (useW z p cl S.cells ws).1, spent := S.spent + 1 } ks r).2, (useW z p cl S.cells ws).2.1, .word z (useW z p cl S.cells ws).2.2.1 (useW z p cl S.cells ws).2.2.2)
def mstepG (prog : List Row) (S : MS) (took : Bool) (g : GH) : GH := match prog[S.row.toNat]? with
  | none => g
  | some r => match r.word S.spent S.cells with
    | none => if S.spent + 1 = r.beats then effG g r else g
    | some _ => if took = true then g else if S.spent + 1 = r.beats then effG g r else g
def ToldM (H H' : Hp) (v : V) : MT → Prop
  | .ends => v = .str "ends"
  | .waits => v = .str "waits"
  | .goes => v = .str "goes"
  | .word z a x => ∃ q, v = .ref q ∧ H q = none ∧ H' q = some (.tup [.str z, .int a, .int x])
theorem word_cl {r : Row} {n : Nat} {spent : Int} {cells : List Int} {z : Str} {p cl : Int} (ok : r.ok n) (s0 : 0 ≤ spent) (s1 : spent < r.beats) (h : r.word spent cells = some (z, p, cl)) : 0 ≤ cl ∧ cl < 4 := by
  cases r <;> simp [Row.word, Row.beats, Row.ok, rg] at h ok s1 <;> omega
section
variable {P : Program} {w : World} {K : PySem.W.Frag} {mg : Str → Option Value} {base : Heap}
variable {H H' : Hp} {m dm pa c k : Addr} {a a' : DA} {rs : List Addr} {prog : List Row} {S : MS} {ks : List Wk} {took : Bool} {g : GH}
def sp_Machine_step (K : PySem.W.Frag) : Sp := fun vs H Q _ => ∃ (m dm pa c k lw : Addr) (a : DA) (rs : List Addr) (prog : List Row) (S : MS) (ks : List Wk) (took : Bool) (g : GH) (ws : List Int), vs = [.ref m, .ref lw, .ref a.d] ∧
  McAt K H m dm pa rs prog c k S ∧ MOk prog S ∧ DevAt K H a ks took g ∧ (∀ b ∈ [m, c, k], b ∉ a.foot) ∧ H lw = some (.lst (ws.map V.int)) ∧ 0 < ws.length ∧ lw ≠ c ∧ lw ≠ k ∧ lw ∉ a.foot ∧ g.G.length < g.nb + 1000 ∧
  ∀ H' a' v, DLe a a' → McAt K H' m dm pa rs prog c k (mstep prog S ks took ws).1 → DevAt K H' a' (mstep prog S ks took ws).2.1 took (mstepG prog S took g) → H' lw = some (.lst ((mstep prog S ks took ws).2.2.1.map V.int)) → Stp [m, c, k, lw] a.foot H a'.foot H' →
    ToldM H H' v (mstep prog S ks took ws).2.2.2 → Q v H'
theorem Stp.tup {X F F' : List Addr} {H H' : Hp} (s : Stp X F H F' H') (hn : ∀ b ∈ X ++ F, ∃ u, H b = some u ∧ notTup u = true) : ∀ q us, H q = some (.tup us) → H' q = some (.tup us) := fun q us h => s.kp _ _ h fun z => by
  obtain ⟨u, hu, hu2⟩ := hn q z
  rw [h] at hu
  cases hu
  cases hu2
theorem ToldM.keep {H H1 H2 : Hp} {v : V} {y : MT} (t : ToldM H H1 v y) (h : ∀ q us, H1 q = some (.tup us) → H2 q = some (.tup us)) : ToldM H H2 v y := by
  cases y with
  | word z a x =>
    obtain ⟨q, e, h1, h2⟩ := t
    exact ⟨q, e, h1, h _ _ h2⟩
  | _ => exact t
theorem mck_inF (M : McAt K H m dm pa rs prog c k S) (D : DevAt K H a ks took g) : ∀ b ∈ m :: c :: k :: a.foot, ∃ u, H b = some u ∧ notTup u = true := fun b hb => by
  simp only [List.mem_cons] at hb
  rcases hb with rfl | rfl | rfl | hb
  · exact ⟨_, M.ob, rfl⟩
  · exact ⟨_, M.hc, rfl⟩
  · exact ⟨_, M.hk, rfl⟩
  · exact D.inF b hb
theorem ok_Machine_step (T : T w K mg) : FnR P w K mg base CX0 5 (He.ma K (He.ga K "Machine") "step") (sp_Machine_step K) := by
  have F_Machine_ended : FnR P w K mg base CX0 1 _ _ := ok_Machine_ended T
  have F_Machine_wanted : FnR P w K mg base CX0 2 _ _ := ok_Machine_wanted T
  have F_Machine_use_word : FnR P w K mg base CX0 1 _ _ := ok_Machine_use_word T
  have F_Machine_finish : FnR P w K mg base CX0 4 _ _ := ok_Machine_finish T
  have F_beats_of : FnR P w K mg base CX0 1 _ _ := ok_beats_of T
  obtain ⟨fd, F⟩ := T.f_Machine_step
  refine F.r sc_Machine_step (fun _ _ _ _ _ _ us hl => match us, hl with | [_, _, _], _ => rfl) (fun vs H Q E h => ?_) (fun cdv A outer s H vs Q E hr h => ?_)
  · obtain ⟨_, _, _, _, _, _, _, _, _, _, _, _, _, _, rfl, _⟩ := h
    rfl
  · obtain ⟨m, dm, pa, c, k, lw, a, rs, prog, S, ks, took, g, ws, rfl, M, O, D, A', hlw, hw0, lc, lk, ll, hgl, q⟩ := h
    have am := A' m (by simp)
    have ac := A' c (by simp)
    have ak := A' k (by simp)
    refine ⟨_, (pss_cons (ps_if (pt_val (pe_mth0R (pv 0) T.cl_Machine T.m_Machine_ended F_Machine_ended (hr.mono (by decide))))
      (pss_one (ps_ret pe_str))
      pss_nil)
      (pss_cons (ps_set (i := 3) sc_Machine_step.nd rfl (Or.inl rfl) (pe_mth0R (pv 0) T.cl_Machine T.m_Machine_wanted F_Machine_wanted (hr.mono (by decide))))
      (pss_cons (ps_if (PW.pt (pw_and (pt_cmp (pc_notN (pv 3))) (pw_and1 (pt_val (pe_fld (pv 2) rfl)))))
      (pss_one (ps_ret pe_str))
      pss_nil)
      (pss_cons (ps_set (i := 4) sc_Machine_step.nd rfl (Or.inl rfl) (pe_ifExp (pt_cmp (pc_isN (pv 3))) pe_str (pe_mthR (pv 0) T.cl_Machine T.m_Machine_use_word F_Machine_use_word (hr.mono (by decide)) (pa_cons (pv 3) (pa_cons (pv 1) pa_nil)))))
      (pss_cons (ps_fldaug (pv 0) pe_int in_add)
      (pss_cons (ps_set (i := 5) sc_Machine_step.nd rfl (Or.inl rfl) (pe_ix ix_tup (pe_fld (pv 0) rfl) (pe_fld (pv 0) rfl) (fun _ _ => rfl)))
      (pss_cons (ps_if (pt_cmpR op_eq (pe_fld (pv 0) rfl) (pe_callR F_beats_of (hr.mono (by decide)) rfl T.g_beats_of T.k_beats_of (pa_cons (pv 5) pa_nil)) (nomark _))
      (pss_one (ps_expr (pe_mthR (pv 0) T.cl_Machine T.m_Machine_finish F_Machine_finish (hr.mono (by decide)) (pa_cons (pv 5) (pa_cons (pv 2) pa_nil)))))
      pss_nil)
      (pss_one (ps_ret (pv 4)))))))))), ?_⟩
    refine ⟨_, rfl, ?_⟩ -- self
    refine ⟨_, _, _, rfl, M.ob, mc_no_ended _, ?_⟩
    refine ⟨m, dm, pa, c, k, rs, prog, S, rfl, M, ?_⟩ -- self.ended()
    refine ⟨_, rfl, ?_⟩ -- test
    have r0 := O.row0
    have rn := O.rown
    unfold mstep mstepG at q
    refine ite2 (fun c1 => ?_) (fun c1 => ?_) -- if self.ended()
    · have c2 : S.row = prog.length := of_decide_eq_true c1
      have e1 : prog[S.row.toNat]? = none := List.getElem?_eq_none (by omega)
      rw [e1] at q
      exact q H a _ (DLe.refl _) M D hlw (Stp.refl _ _ _) rfl
    · have c2 : ¬ S.row = prog.length := fun z => c1 (decide_eq_true z)
      obtain ⟨r, e1⟩ : ∃ r, prog[S.row.toNat]? = some r := ⟨_, List.getElem?_eq_getElem (by omega)⟩
      have rok := O.rows r (List.mem_of_getElem? e1)
      simp only [e1] at q
      refine ⟨_, rfl, ?_⟩ -- self
      refine ⟨_, _, _, rfl, M.ob, mc_no_wanted _, ?_⟩
      refine ⟨m, dm, pa, c, k, rs, prog, S, rfl, M, O, fun H1 wv s1 hwv => ?_⟩ -- self.wanted()
      have ew : wantedOf prog S = r.word S.spent S.cells := by
        unfold wantedOf
        rw [e1]
      rw [ew] at hwv
      have M1 := M.same s1
      have D1 := D.same s1
      have hlw1 := s1 _ _ hlw
      /- what follows the told word -/
      have rest : ∀ (H2 : Hp) (S2 : MS) (ws2 : List Int) (tv : V) (v3 : Option V) (tt : MT), McAt K H2 m dm pa rs prog c k S2 → S2.row = S.row → S2.spent = S.spent → S2.cells.length = 4 → S2.marks.length = 3 → DevAt K H2 a ks took g → H2 lw = some (.lst (ws2.map V.int)) →
          Stp [m, c, k, lw] a.foot H a.foot H2 → ToldM H H2 tv tt →
          (∀ H' a' v, DLe a a' → McAt K H' m dm pa rs prog c k (tick prog.length { S2 with spent := S.spent + 1 } ks r).1 → DevAt K H' a' (tick prog.length { S2 with spent := S.spent + 1 } ks r).2 took (if S.spent + 1 = r.beats then effG g r else g) → H' lw = some (.lst (ws2.map V.int)) → Stp [m, c, k, lw] a.foot H a'.foot H' → ToldM H H' v tt → Q v H') →
          tSeq (sFldAug K (tVar 0) (tC (.int 1)) rAdd "spent") (tSeq (tAsg (tOp (rIxT K) (tFld K (tVar 0) "program") (tFld K (tVar 0) "row")) (gName 5)) (tSeq (tIfS (tTest (tOp rEq (tFld K (tVar 0) "spent") (tCallR (sp_beats_of K) (tCons (tVar 5) tNil))))
            (tDrop (tMethR (He.ga K "Machine") "finish" (sp_Machine_finish K) E0 (tVar 0) (tCons (tVar 5) (tCons (tVar 2) tNil)))) tNext) (tRet (tVar 4)))) { nx := fun _ H' => Q .non H', rt := Q } [some (.ref m), some (.ref lw), some (.ref a.d), v3, some tv, none] H2 := by
        intro H2 S2 ws2 tv v3 tt M2 er es c4 m3 D2 hl2 k2 htv q2
        refine augf M2.ob T.cl_Machine T.n_Machine_spent (mc_spent _) (mc_len _) (mc_put_spent _ _) ?_ -- self.spent += 1
        have M3 : McAt K (upd H2 m (.ins (cMachine K) dm (mcF ⟨pa, c, k, S2.row, S2.spent + 1⟩))) m dm pa rs prog c k { S2 with row := S2.row, spent := S2.spent + 1 } := M2.setM _ _
        have D3 : DevAt K (upd H2 m (.ins (cMachine K) dm (mcF ⟨pa, c, k, S2.row, S2.spent + 1⟩))) a ks took g := D2.upd M2.ob rfl am
        have k3 : Stp [m, c, k, lw] a.foot H a.foot (upd H2 m (.ins (cMachine K) dm (mcF ⟨pa, c, k, S2.row, S2.spent + 1⟩))) := k2.trans (Stp.of ((Kept.refl _ _).put (by simp)) (fun b h => upd_none h))
        have hl3 : upd H2 m (.ins (cMachine K) dm (mcF ⟨pa, c, k, S2.row, S2.spent + 1⟩)) lw = some (.lst (ws2.map V.int)) := by rw [upd_ne (ne_of hl2 M2.ob (by intro z; cases z))]; exact hl2
        have t3 : ToldM H (upd H2 m (.ins (cMachine K) dm (mcF ⟨pa, c, k, S2.row, S2.spent + 1⟩))) tv tt := htv.keep (fun q us h => by rw [upd_ne (ne_of h M2.ob (by intro z; cases z))]; exact h)
        show (tSeq _ _) _ _ (upd H2 m (.ins (cMachine K) dm (mcF ⟨pa, c, k, S2.row, S2.spent + 1⟩)))
        generalize upd H2 m (.ins (cMachine K) dm (mcF ⟨pa, c, k, S2.row, S2.spent + 1⟩)) = H3 at M3 D3 k3 hl3 t3
        obtain ⟨t, e2, e3⟩ := M3.pr.get e1
        refine ⟨_, rfl, _, _, _, _, _, rfl, M3.ob, T.cl_Machine, T.n_Machine_program, mc_program _, ?_⟩
        refine ⟨_, rfl, _, _, _, _, _, rfl, M3.ob, T.cl_Machine, T.n_Machine_row, mc_row _, ?_⟩
        refine ⟨_, _, _, _, rfl, rfl, M3.pr.tup, at_rf (by rw [er]; exact r0) (by rw [er]; exact e2), ?_⟩ -- self.program[self.row]
        refine ⟨_, rfl, _, _, _, _, _, rfl, M3.ob, T.cl_Machine, T.n_Machine_spent, mc_spent _, ?_⟩
        refine ⟨_, rfl, ?_⟩ -- row
        refine ⟨t, r, rfl, e3, fun H4 s4 => ?_⟩ -- beats_of(row)
        refine ⟨rfl, ?_⟩
        refine ⟨_, rfl, ?_⟩
        rw [dec_int']
        have M4 := M3.same s4
        have D4 := D3.same s4
        have hl4 := s4 _ _ hl3
        have k4 : Stp [m, c, k, lw] a.foot H a.foot H4 := k3.trans (Stp.same s4)
        have t4 : ToldM H H4 tv tt := t3.keep (fun q us h => s4 _ _ h)
        unfold tick at q2
        by_cases g1 : S2.spent + 1 = r.beats
        · rw [decide_eq_true g1]
          have g2 : ({ S2 with spent := S.spent + 1 } : MS).spent = r.beats := by show S.spent + 1 = _; rw [← es]; exact g1
          have g3 : S.spent + 1 = r.beats := g2
          rw [if_pos g2, if_pos g3] at q2
          refine iteT ?_
          refine ⟨_, rfl, ?_⟩ -- self
          refine ⟨_, _, _, rfl, M4.ob, mc_no_finish _, ?_⟩
          refine ⟨_, rfl, ?_⟩ -- row
          refine ⟨_, rfl, ?_⟩ -- device
          refine ⟨m, dm, pa, c, k, t, a, rs, prog, _, ks, took, g, r, rfl, M4, D4, A', Same.tup s4 e3, rok, c4, m3, hgl, fun H5 a5 ad5 M5 D5 k5 => ?_⟩ -- self.finish(row, device)
          refine ⟨_, rfl, ?_⟩ -- told
          have eS : ({ S2 with row := S2.row, spent := S2.spent + 1 } : MS) = { S2 with spent := S.spent + 1 } := by rw [es]
          rw [eS] at M5 D5
          refine q2 _ a5 _ ad5 M5 D5 ?_ (k4.trans (k5.mono (fun x hx => by simp only [List.mem_cons] at hx ⊢; rcases hx with h | h | h | h; exact .inl h; exact .inr (.inl h); exact .inr (.inr (.inl h)); cases h))) (t4.keep (k5.tup (mck_inF M4 D4)))
          refine k5.kp _ _ hl4 fun z => ?_
          have z' : lw ∈ m :: c :: k :: a.foot := z
          simp only [List.mem_cons] at z'
          rcases z' with h | h | h | h
          · exact (ne_of hl4 M4.ob (by intro z; cases z)) h
          · exact lc h
          · exact lk h
          · exact ll h
        · rw [decide_eq_false g1]
          have g2 : ¬ ({ S2 with spent := S.spent + 1 } : MS).spent = r.beats := by show ¬ S.spent + 1 = _; rw [← es]; exact g1
          have g3 : ¬ S.spent + 1 = r.beats := g2
          rw [if_neg g2, if_neg g3] at q2
          refine iteF ?_
          refine ⟨_, rfl, ?_⟩ -- told
          have eS : ({ S2 with row := S2.row, spent := S2.spent + 1 } : MS) = { S2 with spent := S.spent + 1 } := by rw [es]
          rw [eS] at M4
          exact q2 _ a _ (DLe.refl _) M4 D4 hl4 k4 t4
      refine ⟨_, rfl, ?_⟩ -- wanted
      cases hwd : r.word S.spent S.cells with
      | none =>
        rw [hwd] at q hwv
        have ev : wv = .non := hwv
        subst ev
        refine ⟨_, rfl, ?_⟩ -- test
        refine iteF (iteF ?_)
        refine ⟨_, rfl, ?_⟩ -- wanted
        refine ⟨_, rfl, ?_⟩ -- test
        refine iteT ?_
        exact rest H1 S ws _ _ .goes M1 rfl rfl O.c4 O.m3 D1 hlw1 (Stp.same s1) rfl q
      | some zz =>
        obtain ⟨z, p, cl⟩ := zz
        rw [hwd] at q hwv
        obtain ⟨wq, rfl, hwq, hwq1⟩ := hwv
        refine ⟨_, rfl, ?_⟩ -- test
        refine iteT ?_
        refine ⟨_, rfl, _, _, _, _, _, rfl, D1.ob, T.cl_Device, T.n_Device_took, dv_took _, ?_⟩
        refine ⟨_, rfl, ?_⟩ -- test
        cases took with
        | true =>
          refine iteT ?_
          exact q _ a _ (DLe.refl _) M1 D1 hlw1 (Stp.same s1) rfl
        | false =>
          refine iteF ?_
          obtain ⟨l0, l1⟩ := word_cl rok O.sp0 (O.sp1 r e1) hwd
          refine ⟨_, rfl, ?_⟩ -- wanted
          refine ⟨_, rfl, ?_⟩ -- test
          refine iteF ?_
          refine ⟨_, rfl, ?_⟩ -- self
          refine ⟨_, _, _, rfl, M1.ob, mc_no_use_word _, ?_⟩
          refine ⟨_, rfl, ?_⟩ -- wanted
          refine ⟨_, rfl, ?_⟩ -- words
          refine ⟨m, dm, pa, c, k, wq, lw, S.row, S.spent, S.cells, ws, z, p, cl, rfl, M1.ob, M1.hc, hlw1, .inl (.inl hwq1), Ne.symm lc, hw0, l0, by rw [O.c4]; exact l1, fun H2 y hy hy2 hc2 hl2 k2 => ?_⟩
          have k2' : Kept (m :: c :: k :: lw :: a.foot) H1 H2 := k2.mono (by
            intro z hz
            simp only [List.mem_cons] at hz ⊢
            rcases hz with h | h | h
            · exact .inr (.inl h)
            · exact .inr (.inr (.inr (.inl h)))
            · cases h)
          have mc : m ≠ c := ne_of M1.ob M1.hc (by intro z; cases z)
          have ml : m ≠ lw := ne_of M1.ob hlw1 (by intro z; cases z)
          have M2 : McAt K H2 m dm pa rs prog c k { S with cells := (useW z p cl S.cells ws).1 } :=
            ⟨k2 _ _ M1.ob (by simp [mc, ml]), M1.pr.keep k2 (fun b hb => by
              have e : b = c ∨ b = lw := by simpa using hb
              rcases e with rfl | rfl
              · exact ⟨_, M1.hc, rfl⟩
              · exact ⟨_, hlw1, rfl⟩), hc2, k2 _ _ M1.hk (by simp [Ne.symm M1.ck, Ne.symm lk]), M1.ck⟩
          have nt2 : ∀ b ∈ [c, lw], ∃ u, H1 b = some u ∧ notTup u = true := fun b hb => by
            have e : b = c ∨ b = lw := by simpa using hb
            rcases e with rfl | rfl
            · exact ⟨_, M1.hc, rfl⟩
            · exact ⟨_, hlw1, rfl⟩
          have D2 : DevAt K H2 a ks false g := D1.stay k2 (fun b hb z => by
            have e : b = c ∨ b = lw := by simpa using z
            rcases e with rfl | rfl
            · exact ac hb
            · exact ll hb) nt2
          have f2 : ∀ b, H2 b = none → H1 b = none := k2.fr (fun b hb => by
            have e : b = c ∨ b = lw := by simpa using hb
            rcases e with rfl | rfl
            · rw [hc2]; simp
            · rw [hl2]; simp)
          have uc4 : (useW z p cl S.cells ws).1.length = 4 := by
            unfold useW
            split
            · rw [List.length_set]; exact O.c4
            · exact O.c4
          exact rest H2 _ _ _ _ (.word z (useW z p cl S.cells ws).2.2.1 (useW z p cl S.cells ws).2.2.2) M2 rfl rfl uc4 O.m3 D2 hl2 ((Stp.same s1).trans (Stp.of k2' f2)) ⟨y, rfl, Same.free s1 hy, hy2⟩ q
def S0 : MS := ⟨[0, 0, 0, 0], [false, false, false], 0, 0⟩
def sp_Machine_init (K : PySem.W.Frag) : Sp := fun vs H Q _ => ∃ (m dm pa : Addr) (rs : List Addr) (prog : List Row), vs = [.ref m, .ref pa] ∧ H m = some (.ins (cMachine K) dm []) ∧ ProgAt K H pa rs prog ∧
  ∀ H' c k, McAt K H' m dm pa rs prog c k S0 → H c = none → H k = none → Kept [m] H H' → Q .non H'
theorem ok_Machine_init (T : T w K mg) : FnR P w K mg base CX0 1 (He.ma K (He.ga K "Machine") "__init__") (sp_Machine_init K) := by
  obtain ⟨t1, g_CELLS⟩ := T.i_CELLS
  obtain ⟨t2, g_MARKS⟩ := T.i_MARKS
  obtain ⟨fd, F⟩ := T.f_Machine_init
  refine F.r sc_Machine_init (fun _ _ _ _ _ _ us hl => match us, hl with | [_, _], _ => rfl) (fun vs H Q E h => ?_) (fun cdv A outer s H vs Q E hr h => ?_)
  · obtain ⟨_, _, _, _, _, rfl, _⟩ := h
    rfl
  · obtain ⟨m, dm, pa, rs, prog, rfl, hself, Pr, q⟩ := h
    refine ⟨_, (pss_cons (ps_fld (pv 0) (pv 1) rfl)
      (pss_cons (ps_fld (pv 0) (pe_op op_rep (pe_lst (pa_cons pe_int pa_nil)) (pe_glob (v := .int 4) rfl g_CELLS ⟨_, rfl⟩)) rfl)
      (pss_cons (ps_fld (pv 0) (pe_op op_rep (pe_lst (pa_cons pe_bl pa_nil)) (pe_glob (v := .int 3) rfl g_MARKS ⟨_, rfl⟩)) rfl)
      (pss_cons (ps_fld (pv 0) pe_int rfl)
      (pss_one (ps_fld (pv 0) pe_int rfl)))))), ?_⟩
    refine ⟨_, rfl, ?_⟩ -- program
    refine stf hself T.cl_Machine T.n_Machine_program (by decide) rfl ?_ -- self.program = program
    generalize e1 : upd H m (.ins (cMachine K) dm (putF "program" (V.ref pa) [])) = H1
    have h1 : H1 m = some (.ins (cMachine K) dm (putF "program" (V.ref pa) [])) := by rw [← e1]; exact upd_same
    have f1 : ∀ p, H1 p = none → H p = none := fun p hp => by
      have pm : p ≠ m := fun z => by rw [z, h1] at hp; cases hp
      rw [← e1, upd_ne pm] at hp
      exact hp
    have k1 : Kept [m] H H1 := by rw [← e1]; exact (Kept.refl _ H).put (by simp)
    refine ⟨by show 1 ≤ sizeLine; decide, fun p hp => ?_⟩ -- [0]
    refine ⟨p, 4, [.int 0], rfl, rfl, upd_same, by decide, by decide, by show 4 ≤ sizeLine; decide, fun c hc => ?_⟩ -- [0] * CELLS
    have cp : c ≠ p := fun z => by rw [z, upd_same] at hc; cases hc
    rw [upd_ne cp] at hc
    have mp : m ≠ p := ne_of_none h1 hp
    have mc : m ≠ c := ne_of_none h1 hc
    refine stf (by rw [upd_ne mc, upd_ne mp]; exact h1) T.cl_Machine T.n_Machine_cells (lt1000 (by kernel_rfl)) rfl ?_ -- self.cells = [0] * CELLS
    generalize e2 : upd (upd (upd H1 p (.lst [.int 0])) c _) m _ = H2
    have h2 : H2 m = some (.ins (cMachine K) dm (putF "cells" (V.ref c) (putF "program" (V.ref pa) []))) := by rw [← e2]; exact upd_same
    have hc2 : H2 c = some (.lst (S0.cells.map V.int)) := by rw [← e2, upd_ne (Ne.symm mc)]; exact upd_same
    have f2 : ∀ x, H2 x = none → H1 x = none := fun x hx => by
      have xm : x ≠ m := fun z => by rw [z, h2] at hx; cases hx
      have xc : x ≠ c := fun z => by rw [z, hc2] at hx; cases hx
      rw [← e2, upd_ne xm, upd_ne xc] at hx
      by_cases xp : x = p
      · rw [xp]; exact hp
      · rw [upd_ne xp] at hx; exact hx
    have k2 : Kept [m] H H2 := by rw [← e2]; exact ((k1.new (f1 p hp)).new (f1 c hc)).put (by simp)
    refine ⟨by show 1 ≤ sizeLine; decide, fun p2 hp2 => ?_⟩ -- [False]
    refine ⟨p2, 3, [.bl false], rfl, rfl, upd_same, by decide, by decide, by show 3 ≤ sizeLine; decide, fun k hk => ?_⟩ -- [False] * MARKS
    have kp : k ≠ p2 := fun z => by rw [z, upd_same] at hk; cases hk
    rw [upd_ne kp] at hk
    have mp2 : m ≠ p2 := ne_of_none h2 hp2
    have mk : m ≠ k := ne_of_none h2 hk
    have cp2 : c ≠ p2 := ne_of_none hc2 hp2
    have ck : c ≠ k := ne_of_none hc2 hk
    refine stf (by rw [upd_ne mk, upd_ne mp2]; exact h2) T.cl_Machine T.n_Machine_marks (lt1000 (by kernel_rfl)) rfl ?_ -- self.marks = [False] * MARKS
    refine stf upd_same T.cl_Machine T.n_Machine_row (lt1000 (by kernel_rfl)) rfl ?_ -- self.row = 0
    refine stf upd_same T.cl_Machine T.n_Machine_spent (lt1000 (by kernel_rfl)) (mc_made pa c k 0 0) ?_ -- self.spent = 0
    rw [upd_upd, upd_upd]
    have kf : Kept [m] H (upd (upd (upd H2 p2 (.lst [.bl false])) k (.lst (List.replicate (3 : Int).toNat [V.bl false]).flatten)) m (.ins (cMachine K) dm (mcF ⟨pa, c, k, 0, 0⟩))) := ((k2.new (f1 _ (f2 _ hp2))).new (f1 _ (f2 _ hk))).put (by simp)
    refine q _ c k ⟨upd_same, Pr.keep kf (fun b hb => ?_), ?_, ?_, ck⟩ (f1 c hc) (f1 _ (f2 _ hk)) kf
    · have e : b = m := by simpa using hb
      rw [e]
      exact ⟨_, hself, rfl⟩
    · rw [upd_ne (Ne.symm mc), upd_ne ck, upd_ne cp2]
      exact hc2
    · rw [upd_ne (Ne.symm mk), upd_same]
      rfl
end
end SB

set_option Elab.async false
set_option linter.all false
set_option maxRecDepth 100000
set_option maxHeartbeats 2000000
namespace SB
open PySem L2
def numB (v : V) (lo hi : Int) : Bool := match v with
  | .int i => decide (lo ≤ i) && decide (i ≤ hi)
  | _ => false
theorem sIx1 (n : Nat) : HT.sIx (n + 1) 0 (some 1) = 1 := by
  have := HT.sIx_nat (n + 1) 0 1
  rw [show ((1 : Nat) : Int) = 1 from rfl] at this
  rw [this]
  omega
theorem cut1 (x : V) (xs : List V) : cutV (x :: xs) (some 1) none = xs := by
  unfold cutV
  rw [List.length_cons, sIx1, HT.sIx_none]
  show xs.take (xs.length + 1 - 1) = xs
  rw [Nat.add_sub_cancel, List.take_length]
theorem at0 {α : Type} (x : α) (xs : List α) : atI (x :: xs) 0 = some x := by
  unfold atI ixN
  rw [if_pos (Int.le_refl 0), if_pos (by rw [List.length_cons]; omega)]
  rfl
section
variable {P : Program} {w : World} {K : PySem.W.Frag} {mg : Str → Option Value} {base : Heap}
def sp_is_number (K : PySem.W.Frag) : Sp := fun vs H Q _ => ∃ (v : V) (lo hi : Int) (n : String), vs = [v, .int lo, .int hi] ∧ TyN K H v n ∧ Q (.bl (numB v lo hi)) H
theorem ok_is_number (T : T w K mg) : FnR P w K mg base CX0 1 (He.ga K "is_number") (sp_is_number K) := by
  obtain ⟨fd, F⟩ := T.f_is_number
  refine F.r sc_is_number (fun _ _ _ _ _ _ us hl => match us, hl with | [_, _, _], _ => rfl) (fun vs H Q E h => ?_) (fun cdv A outer s H vs Q E hr h => ?_)
  · obtain ⟨v, lo, hi, n, rfl, _⟩ := h
    rfl
  · obtain ⟨v, lo, hi, n, rfl, hv, k⟩ := h
    refine ⟨_, (pss_one (ps_ret (pe_and (pe_isi (n := "int") rfl T.u_isinstance rfl T.u_int (pv 0)) (pe_and (pe_not (pe_isi (n := "bool") rfl T.u_isinstance rfl T.u_bool (pv 0))) (pe_one (pe_chain op_le op_le (pv 1) (pv 0) (pv 2))))))), ?_⟩
    refine ⟨_, rfl, rfl, _, hv, _, rfl, ?_⟩
    cases hv with
    | int i =>
      refine iteT ⟨_, rfl, rfl, _, .int i, _, rfl, _, rfl, iteT ⟨_, rfl, _, rfl, _, _, rfl, rfl, _, rfl, ?_⟩⟩
      refine ite2 (fun c1 => ?_) (fun c1 => ?_)
      · refine ⟨_, rfl, _, _, rfl, rfl, ?_⟩
        have e : numB (.int i) lo hi = decide (i ≤ hi) := by
          show (decide (lo ≤ i) && decide (i ≤ hi)) = _
          rw [c1, Bool.true_and]
        rw [e] at k
        exact k
      · have e : numB (.int i) lo hi = false := by
          show (decide (lo ≤ i) && decide (i ≤ hi)) = _
          cases z : decide (lo ≤ i) with
          | true => exact absurd z c1
          | false => rfl
        rw [e] at k
        exact k
    | bl b => exact iteT ⟨_, rfl, rfl, _, .bl b, _, rfl, _, rfl, iteF k⟩
    | str x => exact iteF k
    | non => exact iteF k
    | tup h => exact iteF k
    | lst h => exact iteF k
def sp_is_part (K : PySem.W.Frag) : Sp := fun vs H Q _ => ∃ (v : V) (kd : Str) (lo hi : Int) (n : String), vs = [v, .str kd] ∧ Ent K "BOUNDS" kd [.int lo, .int hi] ∧ TyN K H v n ∧ Q (.bl (numB v lo hi)) H
theorem ok_is_part (T : T w K mg) : FnR P w K mg base CX0 2 (He.ga K "is_part") (sp_is_part K) := by
  have F_is_number : FnR P w K mg base CX0 1 _ _ := ok_is_number T
  obtain ⟨es, en, DB⟩ := T.d_BOUNDS
  obtain ⟨fd, F⟩ := T.f_is_part
  refine F.r sc_is_part (fun _ _ _ _ _ _ us hl => match us, hl with | [_, _], _ => rfl) (fun vs H Q E h => ?_) (fun cdv A outer s H vs Q E hr h => ?_)
  · obtain ⟨_, _, _, _, _, rfl, _⟩ := h
    rfl
  · obtain ⟨v, kd, lo, hi, n, rfl, ⟨p, e1, e2⟩, hv, q⟩ := h
    refine ⟨_, (pss_cons (ps_asg (pe_ix ix_kdict (pe_glob (v := .ref (He.ga K "BOUNDS")) rfl T.g_BOUNDS rfl) (pv 1) (fun _ _ => rfl)) (pg_tup rfl (pgs_cons (pg_name (i := 2) sc_is_part.nd rfl (Or.inl rfl)) (pgs_cons (pg_name (i := 3) sc_is_part.nd rfl (Or.inl rfl)) pgs_nil))))
      (pss_one (ps_ret (pe_callR F_is_number (hr.mono (by decide)) rfl T.g_is_number T.k_is_number (pa_cons (pv 0) (pa_cons (pv 2) (pa_cons (pv 3) pa_nil))))))), ?_⟩
    refine ⟨_, rfl, ?_⟩ -- kind
    refine ⟨_, kd, .ref p, rfl, rfl, ⟨es, en, _, DB.at_, DB.lit, e1, rfl⟩, ?_⟩ -- BOUNDS[kind]
    refine ⟨p, _, rfl, e2 _, rfl, _, _, rfl, _, _, rfl, rfl, ?_⟩ -- low, high = BOUNDS[kind]
    refine ⟨_, rfl, _, rfl, _, rfl, ?_⟩
    exact ⟨v, lo, hi, n, rfl, hv, q⟩
def sp_is_one_of (K : PySem.W.Frag) : Sp := fun vs H Q _ => ∃ (v : V) (m : Int) (n : String), vs = [v, .int m] ∧ TyN K H v n ∧ Q (.bl (numB v 0 (m - 1))) H
theorem ok_is_one_of (T : T w K mg) : FnR P w K mg base CX0 2 (He.ga K "is_one_of") (sp_is_one_of K) := by
  have F_is_number : FnR P w K mg base CX0 1 _ _ := ok_is_number T
  obtain ⟨fd, F⟩ := T.f_is_one_of
  refine F.r sc_is_one_of (fun _ _ _ _ _ _ us hl => match us, hl with | [_, _], _ => rfl) (fun vs H Q E h => ?_) (fun cdv A outer s H vs Q E hr h => ?_)
  · obtain ⟨_, _, _, rfl, _⟩ := h
    rfl
  · obtain ⟨v, m, n, rfl, hv, q⟩ := h
    refine ⟨_, (pss_one (ps_ret (pe_callR F_is_number (hr.mono (by decide)) rfl T.g_is_number T.k_is_number (pa_cons (pv 0) (pa_cons pe_int (pa_cons (pe_op op_sub (pv 1) pe_int) pa_nil)))))), ?_⟩
    refine ⟨_, rfl, ?_⟩ -- value
    refine ⟨_, rfl, ?_⟩ -- many
    refine ⟨_, _, rfl, rfl, ?_⟩ -- many - 1
    exact ⟨v, 0, m - 1, n, rfl, hv, q⟩
def Row.nm : Row → Str
  | .set _ _ => "set" | .add _ _ => "add" | .less _ _ => "less" | .get _ _ => "get" | .put _ _ => "put" | .getx _ _ => "getx" | .putx _ _ => "putx" | .pair _ _ => "pair" | .lay _ _ => "lay" | .go _ => "go" | .iff _ _ => "if" | .ask _ => "ask" | .done _ _ => "done" | .mark _ => "mark" | .clear _ => "clear" | .rest _ => "rest" | .fin => "end"
def Row.parts : Row → List (Int × Str)
  | .set r n => [(r, "cell"), (n, "word")] | .add r s => [(r, "cell"), (s, "cell")] | .less r s => [(r, "cell"), (s, "cell")] | .get r a => [(r, "cell"), (a, "address")] | .put a r => [(a, "address"), (r, "cell")] | .getx r s => [(r, "cell"), (s, "cell")] | .putx s r => [(s, "cell"), (r, "cell")]
  | .pair r a => [(r, "first"), (a, "address")] | .lay a r => [(a, "address"), (r, "first")] | .go t => [(t, "row")] | .iff r t => [(r, "cell"), (t, "row")] | .ask w => [(w, "work")] | .done r w => [(r, "cell"), (w, "work")] | .mark m => [(m, "mark")] | .clear m => [(m, "mark")] | .rest n => [(n, "rest")] | .fin => []
theorem Row.vs_eq (r : Row) : r.vs = .str r.nm :: r.parts.map fun p => V.int p.1 := by cases r <;> rfl
theorem Row.form (T : T w K mg) (r : Row) : Ent K "FORMS" r.nm (r.parts.map fun p => V.str p.2) := by
  cases r
  case set => exact T.e_FORMS_set
  case add => exact T.e_FORMS_add
  case less => exact T.e_FORMS_less
  case get => exact T.e_FORMS_get
  case put => exact T.e_FORMS_put
  case getx => exact T.e_FORMS_getx
  case putx => exact T.e_FORMS_putx
  case pair => exact T.e_FORMS_pair
  case lay => exact T.e_FORMS_lay
  case go => exact T.e_FORMS_go
  case iff => exact T.e_FORMS_if
  case ask => exact T.e_FORMS_ask
  case done => exact T.e_FORMS_done
  case mark => exact T.e_FORMS_mark
  case clear => exact T.e_FORMS_clear
  case rest => exact T.e_FORMS_rest
  case fin => exact T.e_FORMS_end
def PartOk (K : PySem.W.Frag) (n : Nat) (p : Int × Str) : Prop := if p.2 = "row" then numB (.int p.1) 0 ((n : Int) - 1) = true else ∃ lo hi, Ent K "BOUNDS" p.2 [.int lo, .int hi] ∧ numB (.int p.1) lo hi = true
theorem num_ok {i lo hi : Int} (h : rg lo hi i) : numB (.int i) lo hi = true := by
  show (decide (lo ≤ i) && decide (i ≤ hi)) = true
  rw [decide_eq_true h.1, decide_eq_true h.2]
  rfl
theorem part_of {n : Nat} {i lo hi : Int} {kd : Str} (hk : ¬ kd = "row") (e : Ent K "BOUNDS" kd [.int lo, .int hi]) (h : rg lo hi i) : PartOk K n (i, kd) := by
  unfold PartOk
  rw [if_neg hk]
  exact ⟨lo, hi, e, num_ok h⟩
theorem part_row {n : Nat} {i : Int} (h : 0 ≤ i ∧ i < n) : PartOk K n (i, "row") := by
  unfold PartOk
  rw [if_pos rfl]
  exact num_ok ⟨h.1, by omega⟩
theorem Row.partsOk (T : T w K mg) {n : Nat} {r : Row} (h : r.ok n) : ∀ p ∈ r.parts, PartOk K n p := by
  have cell : ∀ {i}, rg 0 3 i → PartOk K n (i, "cell") := fun h => part_of (by decide +kernel) T.e_BOUNDS_cell h
  have word : ∀ {i}, rg 0 999 i → PartOk K n (i, "word") := fun h => part_of (by decide +kernel) T.e_BOUNDS_word h
  have addr : ∀ {i}, rg 0 31 i → PartOk K n (i, "address") := fun h => part_of (by decide +kernel) T.e_BOUNDS_address h
  have frst : ∀ {i}, rg 0 2 i → PartOk K n (i, "first") := fun h => part_of (by decide +kernel) T.e_BOUNDS_first h
  have work : ∀ {i}, rg 0 5 i → PartOk K n (i, "work") := fun h => part_of (by decide +kernel) T.e_BOUNDS_work h
  have mark : ∀ {i}, rg 0 2 i → PartOk K n (i, "mark") := fun h => part_of (by decide +kernel) T.e_BOUNDS_mark h
  have rest : ∀ {i}, rg 1 9 i → PartOk K n (i, "rest") := fun h => part_of (by decide +kernel) T.e_BOUNDS_rest h
  intro p hp
  cases r <;> simp only [Row.parts, List.mem_cons, List.not_mem_nil, or_false] at hp
  case set => rcases hp with rfl | rfl; exact cell h.1; exact word h.2
  case add => rcases hp with rfl | rfl; exact cell h.1; exact cell h.2
  case less => rcases hp with rfl | rfl; exact cell h.1; exact cell h.2
  case get => rcases hp with rfl | rfl; exact cell h.1; exact addr h.2
  case put => rcases hp with rfl | rfl; exact addr h.1; exact cell h.2
  case getx => rcases hp with rfl | rfl; exact cell h.1; exact cell h.2
  case putx => rcases hp with rfl | rfl; exact cell h.1; exact cell h.2
  case pair => rcases hp with rfl | rfl; exact frst h.1; exact addr h.2
  case lay => rcases hp with rfl | rfl; exact addr h.1; exact frst h.2
  case go => subst hp; exact part_row h
  case iff => rcases hp with rfl | rfl; exact cell h.1; exact part_row h.2
  case ask => subst hp; exact work h
  case done => rcases hp with rfl | rfl; exact cell h.1; exact work h.2
  case mark => subst hp; exact mark h
  case clear => subst hp; exact mark h
  case rest => subst hp; exact rest h
def sp_is_row (K : PySem.W.Frag) : Sp := fun vs H Q _ => ∃ (t : Addr) (n : Nat) (r : Row), vs = [.ref t, .int (n : Int)] ∧ SqT K H t r.vs ∧ r.ok n ∧ ∀ H', Same H H' → Q (.bl true) H'
theorem ok_is_row (T : T w K mg) : FnR P w K mg base CX0 3 (He.ga K "is_row") (sp_is_row K) := by
  have F_is_part : FnR P w K mg base CX0 2 _ _ := ok_is_part T
  have F_is_one_of : FnR P w K mg base CX0 2 _ _ := ok_is_one_of T
  obtain ⟨es, en, DF⟩ := T.d_FORMS
  obtain ⟨fd, F⟩ := T.f_is_row
  refine F.r sc_is_row (fun _ _ _ _ _ _ us hl => match us, hl with | [_, _], _ => rfl) (fun vs H Q E h => ?_) (fun cdv A outer s H vs Q E hr h => ?_)
  · obtain ⟨_, _, _, rfl, _⟩ := h
    rfl
  · obtain ⟨t, n, r, rfl, ht, ok, q⟩ := h
    obtain ⟨fp, e1, e2⟩ := Row.form T r
    have po := Row.partsOk T ok
    rw [Row.vs_eq] at ht
    generalize r.nm = nm at ht e1
    generalize r.parts = ps at ht e2 po
    refine ⟨_, (pss_cons (ps_if (PW.pt (pw_or (pt_not (pt_val (pe_isi (n := "tuple") rfl T.u_isinstance rfl T.u_tuple (pv 0)))) (pw_or (pt_not (pt_truth (pv 0) (fun _ => rfl))) (pw_or (pt_not (pt_val (pe_isi (n := "str") rfl T.u_isinstance rfl T.u_str (pe_ix ix_tup (pv 0) pe_int (fun _ _ => rfl))))) (pw_or1 (pt_cmpR (op_notIn_kd DF) (pe_ix ix_tup (pv 0) pe_int (fun _ _ => rfl)) (pe_glob (v := .ref (He.ga K "FORMS")) rfl T.g_FORMS rfl) rfl))))))
      (pss_one (ps_ret pe_bl))
      pss_nil)
      (pss_cons (ps_set (i := 2) sc_is_row.nd rfl (Or.inl rfl) (pe_ix ix_kdict (pe_glob (v := .ref (He.ga K "FORMS")) rfl T.g_FORMS rfl) (pe_ix ix_tup (pv 0) pe_int (fun _ _ => rfl)) (fun _ _ => rfl)))
      (pss_cons (ps_if (pt_cmpR op_ne (pe_callB call_len_seq rfl T.u_len PySem.boot_len (pa_cons (pv 0) pa_nil)) (pe_op op_add (pe_callB call_len_seq rfl T.u_len PySem.boot_len (pa_cons (pv 2) pa_nil)) pe_int) (nomark _))
      (pss_one (ps_ret pe_bl))
      pss_nil)
      (pss_cons (ps_for PassesOwn.never rfl (RZ.pi_zipA rfl T.u_zip (pa_cons (pe_slice sl_tup (pv 0) (po_some pe_int) po_none) (pa_cons (pv 2) pa_nil))) (pg_tup rfl (pgs_cons (pg_name (i := 3) sc_is_row.nd rfl (Or.inl rfl)) (pgs_cons (pg_name (i := 4) sc_is_row.nd rfl (Or.inl rfl)) pgs_nil)))
      (pss_cons (ps_set (i := 5) sc_is_row.nd rfl (Or.inl rfl) (pe_ifExp (pt_cmpR op_eq (pv 4) pe_str (nomark _)) (pe_callR F_is_one_of (hr.mono (by decide)) rfl T.g_is_one_of T.k_is_one_of (pa_cons (pv 3) (pa_cons (pv 1) pa_nil))) (pe_callR F_is_part (hr.mono (by decide)) rfl T.g_is_part T.k_is_part (pa_cons (pv 3) (pa_cons (pv 4) pa_nil)))))
      (pss_one (ps_if (pt_not (pt_val (pv 5)))
      (pss_one (ps_ret pe_bl))
      pss_nil))))
      (pss_one (ps_ret pe_bl)))))), ?_⟩
    refine ⟨_, rfl, rfl, _, .tup ht, _, rfl, iteF ?_⟩ -- isinstance(row, tuple)
    refine ⟨_, rfl, true, ?_, iteF ?_⟩ -- not row
    · exact .inr (.inl ⟨_, ht, rfl⟩)
    refine ⟨_, rfl, _, _, _, _, rfl, rfl, ht, at0 _ _, rfl, _, .str _, _, rfl, iteF ?_⟩ -- isinstance(row[0], str)
    refine ⟨_, rfl, _, _, _, _, rfl, rfl, ht, at0 _ _, nm, _, rfl, rfl, e1, _, rfl, iteF ?_⟩ -- row[0] not in FORMS
    refine ⟨_, rfl, _, _, _, _, rfl, rfl, ht, at0 _ _, _, nm, .ref fp, rfl, rfl, ⟨es, en, _, DF.at_, DF.lit, e1, rfl⟩, ?_⟩ -- form = FORMS[row[0]]
    refine ⟨_, rfl, _, _, rfl, .inr ht, ?_⟩ -- len
    refine ⟨_, rfl, _, _, rfl, .inr (e2 _), _, _, rfl, rfl, ?_⟩ -- len(form) + 1
    refine ⟨rfl, _, rfl, ?_⟩
    have el : ((V.str nm :: ps.map fun p => V.int p.1).length : Int) = ((ps.map fun p => V.str p.2).length : Int) + 1 := by simp
    rw [dec_int', el, decide_eq_true rfl]
    refine iteF ?_
    have n1 : 1 ≤ (V.str nm :: ps.map fun p => V.int p.1).length := by simp
    refine ⟨_, rfl, _, rfl, _, _, rfl, ht, ?_, fun sp hsp => ?_⟩ -- slice row[1:]
    · rw [List.length_cons, sIx1]
      exact fun z => absurd z.1 (by decide)
    rw [cut1]
    refine ⟨_, rfl, ?_⟩ -- form
    have s1 : Same H (upd H sp (.tup (ps.map fun p => V.int p.1))) := Same.new (Same.refl H) hsp
    refine ⟨sp, fp, (ps.map fun p : Int × Str => V.int p.1), (ps.map fun p : Int × Str => V.str p.2), rfl, .inr ⟨.inl (.inl upd_same), e2 _, RZ.for_zipT (by simp) (fun i σ H2 => ∃ v3 v4 v5, σ = [some (.ref t), some (.int (n : Int)), some (.ref fp), v3, v4, v5] ∧ Same H H2 ∧ H2 sp = some (.tup (ps.map fun p => V.int p.1)))
      ⟨none, none, none, rfl, s1, upd_same⟩ (fun i σ H2 ⟨_, _, _, _, _, h⟩ => ⟨.inl (.inl h), e2 _⟩) ?_ ?_⟩⟩
    · rintro i x y tt σ H2 hx hy ⟨v3, v4, v5, rfl, s2, h2⟩ htt
      rw [List.getElem?_map] at hx hy
      cases hp : ps[i]? with
      | none => rw [hp] at hx; cases hx
      | some p =>
        rw [hp] at hx hy
        cases hx
        cases hy
        have hpo := po p (List.mem_of_getElem? hp)
        have s3 : Same H (upd H2 tt (.tup [.int p.1, .str p.2])) := s2.trans (Same.new (Same.refl H2) htt)
        have h3 : upd H2 tt (.tup [.int p.1, .str p.2]) sp = some (.tup (ps.map fun p => V.int p.1)) := by rw [upd_ne (ne_of_none h2 htt)]; exact h2
        refine ⟨tt, _, rfl, .inl (.inl upd_same), rfl, _, _, rfl, _, _, rfl, rfl, ?_⟩
        refine ⟨_, rfl, rfl, _, rfl, ?_⟩
        rw [dec_str]
        unfold PartOk at hpo
        by_cases g : p.2 = "row"
        · rw [decide_eq_true g]
          rw [if_pos g] at hpo
          refine iteT ?_
          refine ⟨_, rfl, _, rfl, _, _, "int", rfl, .int _, ?_⟩
          rw [hpo]
          refine ⟨_, rfl, _, rfl, iteF ?_⟩
          exact ⟨_, _, _, rfl, s3, h3⟩
        · rw [decide_eq_false g]
          rw [if_neg g] at hpo
          obtain ⟨lo, hi, en', hn⟩ := hpo
          refine iteF ?_
          refine ⟨_, rfl, _, rfl, _, _, lo, hi, "int", rfl, en', .int _, ?_⟩
          rw [hn]
          refine ⟨_, rfl, _, rfl, iteF ?_⟩
          exact ⟨_, _, _, rfl, s3, h3⟩
    · rintro σ H2 ⟨v3, v4, v5, rfl, s2, h2⟩
      exact q _ s2
structure WOk (n : Nat) (k : Wk) : Prop where
  b : rg 0 31 k.begin
  g : rg 0 31 k.goal
  m : rg 1 16 k.many
  c : rg 1 4 k.block
  gr : k.greed = "all" ∨ k.greed = "turn" ∨ k.greed = "idle"
  mar : ∀ i, k.mark = some i → rg 0 2 i
  fo : ∀ i, k.follow = some i → 0 ≤ i ∧ i < n
def sp_is_work (K : PySem.W.Frag) : Sp := fun vs H Q _ => ∃ (t : Addr) (n : Nat) (k : Wk), vs = [.ref t, .int (n : Int)] ∧ SqT K H t k.vs ∧ WOk n k ∧ Q (.bl true) H
theorem ok_is_work (T : T w K mg) : FnR P w K mg base CX0 3 (He.ga K "is_work") (sp_is_work K) := by
  have F_is_part : FnR P w K mg base CX0 2 _ _ := ok_is_part T
  have F_is_one_of : FnR P w K mg base CX0 2 _ _ := ok_is_one_of T
  obtain ⟨fd, F⟩ := T.f_is_work
  refine F.r sc_is_work (fun _ _ _ _ _ _ us hl => match us, hl with | [_, _], _ => rfl) (fun vs H Q E h => ?_) (fun cdv A outer s H vs Q E hr h => ?_)
  · obtain ⟨_, _, _, rfl, _⟩ := h
    rfl
  · obtain ⟨t, n, k, rfl, ht, ok, q⟩ := h
    refine ⟨_, (pss_cons (ps_if (PW.pt (pw_or (pt_not (pt_val (pe_isi (n := "tuple") rfl T.u_isinstance rfl T.u_tuple (pv 0)))) (pw_or1 (pt_cmpR op_ne (pe_callB call_len_seq rfl T.u_len PySem.boot_len (pa_cons (pv 0) pa_nil)) pe_int (nomark _)))))
      (pss_one (ps_ret pe_bl))
      pss_nil)
      (pss_cons (ps_asg (pv 0) (pg_tup rfl (pgs_cons (pg_name (i := 2) sc_is_work.nd rfl (Or.inl rfl)) (pgs_cons (pg_name (i := 3) sc_is_work.nd rfl (Or.inl rfl)) (pgs_cons (pg_name (i := 4) sc_is_work.nd rfl (Or.inl rfl)) (pgs_cons (pg_name (i := 5) sc_is_work.nd rfl (Or.inl rfl)) (pgs_cons (pg_name (i := 6) sc_is_work.nd rfl (Or.inl rfl)) (pgs_cons (pg_name (i := 7) sc_is_work.nd rfl (Or.inl rfl)) (pgs_cons (pg_name (i := 8) sc_is_work.nd rfl (Or.inl rfl)) pgs_nil)))))))))
      (pss_cons (ps_set (i := 9) sc_is_work.nd rfl (Or.inl rfl) (pe_and (pe_callR F_is_part (hr.mono (by decide)) rfl T.g_is_part T.k_is_part (pa_cons (pv 2) (pa_cons pe_str pa_nil))) (pe_and (pe_callR F_is_part (hr.mono (by decide)) rfl T.g_is_part T.k_is_part (pa_cons (pv 3) (pa_cons pe_str pa_nil))) (pe_one (pe_callR F_is_part (hr.mono (by decide)) rfl T.g_is_part T.k_is_part (pa_cons (pv 4) (pa_cons pe_str pa_nil)))))))
      (pss_cons (ps_set (i := 10) sc_is_work.nd rfl (Or.inl rfl) (pe_and (pe_callR F_is_part (hr.mono (by decide)) rfl T.g_is_part T.k_is_part (pa_cons (pv 5) (pa_cons pe_str pa_nil))) (pe_one (pe_or (pe_cmp (pc_isN (pv 7))) (pe_one (pe_callR F_is_part (hr.mono (by decide)) rfl T.g_is_part T.k_is_part (pa_cons (pv 7) (pa_cons pe_str pa_nil))))))))
      (pss_one (ps_ret (pe_and (pv 9) (pe_and (pv 10) (pe_and (pe_cmpR op_in_seq (pv 6) (pe_glob (v := .ref (He.ga K "GREEDS")) rfl T.g_GREEDS rfl) rfl) (pe_one (pe_or (pe_cmp (pc_isN (pv 8))) (pe_one (pe_callR F_is_one_of (hr.mono (by decide)) rfl T.g_is_one_of T.k_is_one_of (pa_cons (pv 8) (pa_cons (pv 1) pa_nil))))))))))))))), ?_⟩
    refine ⟨_, rfl, rfl, _, .tup ht, _, rfl, iteF ?_⟩ -- isinstance(work, tuple)
    refine ⟨_, rfl, _, _, rfl, .inr ht, rfl, _, rfl, iteF ?_⟩ -- len(work) != 7
    refine ⟨_, rfl, _, _, rfl, ht, rfl, _, _, rfl, _, _, rfl, _, _, rfl, _, _, rfl, _, _, rfl, _, _, rfl, _, _, rfl, rfl, ?_⟩ -- begin, goal, many, block, greed, mark, follow = work
    refine ⟨_, rfl, _, _, 0, 31, "int", rfl, T.e_BOUNDS_address, .int _, ?_⟩
    rw [num_ok ok.b]
    refine ⟨_, rfl, iteT ?_⟩
    refine ⟨_, rfl, _, _, 0, 31, "int", rfl, T.e_BOUNDS_address, .int _, ?_⟩
    rw [num_ok ok.g]
    refine ⟨_, rfl, iteT ?_⟩
    refine ⟨_, rfl, _, _, 1, 16, "int", rfl, T.e_BOUNDS_many, .int _, ?_⟩
    rw [num_ok ok.m]
    refine ⟨_, rfl, _, _, 1, 4, "int", rfl, T.e_BOUNDS_block, .int _, ?_⟩
    rw [num_ok ok.c]
    refine ⟨_, rfl, iteT ?_⟩
    refine ⟨_, rfl, _, rfl, ?_⟩ -- mark is None
    have fin : ∀ (σ : L2.St), σ[9]? = some (some (.bl true)) → σ[10]? = some (some (.bl true)) → σ[6]? = some (some (.str k.greed)) → σ[8]? = some (some (oV k.follow)) → σ[1]? = some (some (.int (n : Int))) →
        tAndV (tVar 9) (tAndV (tVar 10) (tAndV (tOp (rIn K false) (tVar 6) (tC (.ref (He.ga K "GREEDS")))) (tOrV (tIsN (tVar 8)) (tCallR (sp_is_one_of K) (tCons (tVar 8) (tCons (tVar 1) tNil)))))) σ H Q := by
      intro σ h9 h10 h6 h8 h1
      refine ⟨_, h9, _, rfl, iteT ?_⟩
      refine ⟨_, h10, _, rfl, iteT ?_⟩
      refine ⟨_, h6, _, _, rfl, .inr (T.tt_GREEDS _), rfl, rfl, ?_⟩
      have eg : (if false = true then !inV (V.str k.greed) [.str "all", .str "turn", .str "idle"] else inV (V.str k.greed) [.str "all", .str "turn", .str "idle"]) = true := by
        rcases ok.gr with e | e | e <;> rw [e] <;> decide +kernel
      rw [eg]
      refine ⟨_, rfl, iteT ?_⟩
      refine ⟨_, h8, _, rfl, ?_⟩
      cases ef : k.follow with
      | none => exact iteT q
      | some f =>
        refine iteF ?_
        refine ⟨_, h8, _, h1, _, _, "int", rfl, by rw [ef]; exact .int f, ?_⟩
        rw [ef]
        have := ok.fo f ef
        show Q (.bl (numB (.int f) 0 ((n : Int) - 1))) H
        rw [num_ok ⟨this.1, by omega⟩]
        exact q
    cases em : k.mark with
    | none =>
      refine iteT ?_
      exact fin _ rfl rfl rfl rfl rfl
    | some i =>
      refine iteF ?_
      refine ⟨_, rfl, _, _, 0, 2, "int", rfl, T.e_BOUNDS_mark, .int i, ?_⟩
      have e2 : numB (oV (some i)) 0 2 = true := num_ok (ok.mar i em)
      rw [e2]
      exact fin _ rfl rfl rfl rfl rfl
end
end SB

set_option Elab.async false
set_option linter.all false
set_option maxRecDepth 100000
set_option maxHeartbeats 2000000
namespace SB
open PySem L2
theorem walk_enumT {K : PySem.W.Frag} {a : Addr} {xs : List V} : Walk (IteT K a) xs.length (fun H => SqT K H a xs) (YPair (fun i => some (.int (i : Nat))) (fun i => xs[i]?)) := by
  refine ⟨fun i _ hi q => ⟨xs, xs[i], q, by simp [hi]⟩, fun _ q => ⟨xs, q, Nat.le_refl _⟩, fun i H v H' _ q y => ?_⟩
  obtain ⟨T, x, h1, h2, h3, h4⟩ := y
  exact ⟨T, .int (i : Nat), x, h1, h2, h3, rfl, h4 xs q⟩
section
variable {P : Program} {w : World} {K : PySem.W.Frag} {mg : Str → Option Value} {base : Heap}
def sp_is_ask (K : PySem.W.Frag) : Sp := fun vs H Q _ => ∃ (t : Addr) (n : Nat) (b x e : Int), vs = [.ref t, .int (n : Int), .int e] ∧ SqT K H t [.int b, .int x] ∧ rg 0 200 b ∧ e ≤ b ∧ 0 ≤ x ∧ x < n ∧ Q (.bl true) H
theorem ok_is_ask (T : T w K mg) : FnR P w K mg base CX0 3 (He.ga K "is_ask") (sp_is_ask K) := by
  have F_is_part : FnR P w K mg base CX0 2 _ _ := ok_is_part T
  have F_is_one_of : FnR P w K mg base CX0 2 _ _ := ok_is_one_of T
  obtain ⟨fd, F⟩ := T.f_is_ask
  refine F.r sc_is_ask (fun _ _ _ _ _ _ us hl => match us, hl with | [_, _, _], _ => rfl) (fun vs H Q E h => ?_) (fun cdv A outer s H vs Q E hr h => ?_)
  · obtain ⟨_, _, _, _, _, rfl, _⟩ := h
    rfl
  · obtain ⟨t, n, b, x, e, rfl, ht, hb, he, h0, h1, q⟩ := h
    refine ⟨_, (pss_cons (ps_if (PW.pt (pw_or (pt_not (pt_val (pe_isi (n := "tuple") rfl T.u_isinstance rfl T.u_tuple (pv 0)))) (pw_or1 (pt_cmpR op_ne (pe_callB call_len_seq rfl T.u_len PySem.boot_len (pa_cons (pv 0) pa_nil)) pe_int (nomark _)))))
      (pss_one (ps_ret pe_bl))
      pss_nil)
      (pss_cons (ps_asg (pv 0) (pg_tup rfl (pgs_cons (pg_name (i := 3) sc_is_ask.nd rfl (Or.inl rfl)) (pgs_cons (pg_name (i := 4) sc_is_ask.nd rfl (Or.inl rfl)) pgs_nil))))
      (pss_one (ps_ret (pe_and (pe_callR F_is_part (hr.mono (by decide)) rfl T.g_is_part T.k_is_part (pa_cons (pv 3) (pa_cons pe_str pa_nil))) (pe_and (pe_cmpR op_ge (pv 3) (pv 2) (nomark _)) (pe_one (pe_callR F_is_one_of (hr.mono (by decide)) rfl T.g_is_one_of T.k_is_one_of (pa_cons (pv 4) (pa_cons (pv 1) pa_nil)))))))))), ?_⟩
    refine ⟨_, rfl, rfl, _, .tup ht, _, rfl, iteF ?_⟩ -- isinstance(ask, tuple)
    refine ⟨_, rfl, _, _, rfl, .inr ht, rfl, _, rfl, iteF ?_⟩ -- len(ask) != 2
    refine ⟨_, rfl, _, _, rfl, ht, rfl, _, _, rfl, _, _, rfl, rfl, ?_⟩ -- when, work = ask
    refine ⟨_, rfl, _, _, 0, 200, "int", rfl, T.e_BOUNDS_ask, .int _, ?_⟩
    rw [num_ok hb]
    refine ⟨_, rfl, iteT ?_⟩
    refine ⟨_, rfl, _, rfl, _, _, rfl, rfl, ?_⟩ -- when >= earliest
    refine ⟨decide (e ≤ b), rfl, ?_⟩
    rw [decide_eq_true he]
    refine iteT ?_
    refine ⟨_, rfl, _, rfl, _, _, "int", rfl, .int _, ?_⟩
    rw [num_ok (show rg 0 ((n : Int) - 1) x from ⟨h0, by omega⟩)]
    exact q
def sp_check_program (K : PySem.W.Frag) : Sp := fun vs H Q _ => ∃ (pa : Addr) (rs : List Addr) (prog : List Row), vs = [.ref pa] ∧ ProgAt K H pa rs prog ∧ 0 < prog.length ∧ prog.length ≤ 40 ∧ (∀ r ∈ prog, r.ok prog.length) ∧ ∀ H', Same H H' → Q .non H'
theorem ok_check_program (T : T w K mg) : FnR P w K mg base CX0 4 (He.ga K "check_program") (sp_check_program K) := by
  have F_is_row : FnR P w K mg base CX0 3 _ _ := ok_is_row T
  obtain ⟨t1, g_MOST_ROWS⟩ := T.i_MOST_ROWS
  obtain ⟨fd, F⟩ := T.f_check_program
  refine F.r sc_check_program (fun _ _ _ _ _ _ us hl => match us, hl with | [_], _ => rfl) (fun vs H Q E h => ?_) (fun cdv A outer s H vs Q E hr h => ?_)
  · obtain ⟨_, _, _, rfl, _⟩ := h
    rfl
  · obtain ⟨pa, rs, prog, rfl, Pr, p0, p40, ok, q⟩ := h
    refine ⟨_, (pss_cons (ps_if (PW.pt (pw_or (pt_not (pt_val (pe_isi (n := "tuple") rfl T.u_isinstance rfl T.u_tuple (pv 0)))) (pw_or1 (pt_not (pt_truth (pv 0) (fun _ => rfl))))))
      (pss_one ps_never)
      pss_nil)
      (pss_one (ps_for PassesOwn.never rfl (pi_enumT rfl T.u_enumerate (pa_cons (pv 0) pa_nil)) (pg_tup rfl (pgs_cons (pg_name (i := 1) sc_check_program.nd rfl (Or.inl rfl)) (pgs_cons (pg_name (i := 2) sc_check_program.nd rfl (Or.inl rfl)) pgs_nil)))
      (pss_one (ps_if (PW.pt (pw_or (pt_cmpR op_eq (pv 1) (pe_glob (v := .int 40) rfl g_MOST_ROWS ⟨_, rfl⟩) (nomark _)) (pw_or1 (pt_not (pt_val (pe_callR F_is_row (hr.mono (by decide)) rfl T.g_is_row T.k_is_row (pa_cons (pv 2) (pa_cons (pe_callB call_len_seq rfl T.u_len PySem.boot_len (pa_cons (pv 0) pa_nil)) pa_nil))))))))
      (pss_one ps_never)
      pss_nil))))), ?_⟩
    have ne : (rs.map V.ref).isEmpty = false := by
      cases rs with
      | nil => have := Pr.len; simp at this; omega
      | cons a r => rfl
    refine ⟨_, rfl, rfl, _, .tup Pr.tup, _, rfl, iteF ?_⟩ -- isinstance(program, tuple)
    refine ⟨_, rfl, true, .inr (.inl ⟨_, Pr.tup, by rw [ne]; rfl⟩), iteF ?_⟩ -- not program
    refine ⟨_, rfl, pa, rs.map V.ref, rfl, Pr.tup, for_it walk_enumT (fun i σ H2 => ∃ v1 v2, σ = [some (.ref pa), v1, v2] ∧ Same H H2) ⟨none, none, rfl, Same.refl H⟩ (fun i σ H2 _ ⟨_, _, _, s2⟩ => Same.tup s2 Pr.tup) ?_ ?_⟩
    · rintro i x σ H2 H3 hi ⟨v1, v2, rfl, s2⟩ ⟨t, y, z, rfl, ht, rfl, e1, e2⟩
      cases e1
      rw [List.length_map] at hi
      have hi2 : i < prog.length := by rw [← Pr.len]; exact hi
      obtain ⟨r, hr'⟩ : ∃ r, prog[i]? = some r := ⟨_, List.getElem?_eq_getElem hi2⟩
      obtain ⟨a, e3, e4⟩ := Pr.get hr'
      have e2 : (rs.map V.ref)[i]? = some z := e2
      rw [List.getElem?_map, e3] at e2
      cases e2
      have s3 : Same H (upd H2 t (.tup [.int (i : Int), .ref a])) := s2.trans (Same.new (Same.refl H2) ht)
      refine ⟨t, _, rfl, .inl (.inl upd_same), rfl, _, _, rfl, _, _, rfl, rfl, ?_⟩
      refine ⟨_, rfl, rfl, _, rfl, ?_⟩
      rw [dec_int', decide_eq_false (by omega)]
      refine iteF ?_
      refine ⟨_, rfl, _, rfl, _, _, rfl, .inr (Same.tup s3 Pr.tup), ?_⟩
      rw [List.length_map, Pr.len]
      refine ⟨a, prog.length, r, rfl, Same.tup s3 e4, ok r (List.mem_of_getElem? hr'), fun H4 s4 => ?_⟩
      exact ⟨_, rfl, iteF ⟨_, _, rfl, s3.trans s4⟩⟩
    · rintro σ H2 ⟨v1, v2, rfl, s2⟩
      exact q _ s2
def sp_check_works (K : PySem.W.Frag) : Sp := fun vs H Q _ => ∃ (wl : Addr) (ts : List Addr) (ks : List Wk), vs = [.ref wl] ∧ WorksAt K H wl ts ks ∧ ks.length ≤ 6 ∧ (∀ k ∈ ks, WOk ks.length k) ∧ ∀ H', Same H H' → Q .non H'
theorem ok_check_works (T : T w K mg) : FnR P w K mg base CX0 4 (He.ga K "check_works") (sp_check_works K) := by
  have F_is_work : FnR P w K mg base CX0 3 _ _ := ok_is_work T
  obtain ⟨t1, g_MOST_WORKS⟩ := T.i_MOST_WORKS
  obtain ⟨fd, F⟩ := T.f_check_works
  refine F.r sc_check_works (fun _ _ _ _ _ _ us hl => match us, hl with | [_], _ => rfl) (fun vs H Q E h => ?_) (fun cdv A outer s H vs Q E hr h => ?_)
  · obtain ⟨_, _, _, rfl, _⟩ := h
    rfl
  · obtain ⟨wl, ts, ks, rfl, W, w6, ok, q⟩ := h
    refine ⟨_, (pss_cons (ps_if (pt_not (pt_val (pe_isi (n := "list") rfl T.u_isinstance rfl T.u_list (pv 0))))
      (pss_one ps_never)
      pss_nil)
      (pss_one (ps_for PassesOwn.never rfl (pi_enum rfl T.u_enumerate (pa_cons (pv 0) pa_nil)) (pg_tup rfl (pgs_cons (pg_name (i := 1) sc_check_works.nd rfl (Or.inl rfl)) (pgs_cons (pg_name (i := 2) sc_check_works.nd rfl (Or.inl rfl)) pgs_nil)))
      (pss_one (ps_if (PW.pt (pw_or (pt_cmpR op_eq (pv 1) (pe_glob (v := .int 6) rfl g_MOST_WORKS ⟨_, rfl⟩) (nomark _)) (pw_or1 (pt_not (pt_val (pe_callR F_is_work (hr.mono (by decide)) rfl T.g_is_work T.k_is_work (pa_cons (pv 2) (pa_cons (pe_callB call_len_seq rfl T.u_len PySem.boot_len (pa_cons (pv 0) pa_nil)) pa_nil))))))))
      (pss_one ps_never)
      pss_nil))))), ?_⟩
    refine ⟨_, rfl, rfl, _, .lst W.lst, _, rfl, iteF ?_⟩ -- isinstance(works, list)
    refine ⟨_, rfl, wl, ts.map V.ref, rfl, W.lst, for_it walk_enum (fun i σ H2 => ∃ v1 v2, σ = [some (.ref wl), v1, v2] ∧ Same H H2) ⟨none, none, rfl, Same.refl H⟩ (fun i σ H2 _ ⟨_, _, _, s2⟩ => s2.seq W.lst) ?_ ?_⟩
    · rintro i x σ H2 H3 hi ⟨v1, v2, rfl, s2⟩ ⟨t, y, z, rfl, ht, rfl, e1, e2⟩
      cases e1
      rw [List.length_map] at hi
      have hi2 : i < ks.length := by rw [← W.len]; exact hi
      obtain ⟨r, hr'⟩ : ∃ r, ks[i]? = some r := ⟨_, List.getElem?_eq_getElem hi2⟩
      obtain ⟨a, e3⟩ : ∃ a, ts[i]? = some a := ⟨_, List.getElem?_eq_getElem hi⟩
      have e4 := W.at_ i a r e3 hr'
      have e2 : (ts.map V.ref)[i]? = some z := e2
      rw [List.getElem?_map, e3] at e2
      cases e2
      have s3 : Same H (upd H2 t (.tup [.int (i : Int), .ref a])) := s2.trans (Same.new (Same.refl H2) ht)
      refine ⟨t, _, rfl, .inl (.inl upd_same), rfl, _, _, rfl, _, _, rfl, rfl, ?_⟩
      refine ⟨_, rfl, rfl, _, rfl, ?_⟩
      rw [dec_int', decide_eq_false (by omega)]
      refine iteF ?_
      refine ⟨_, rfl, _, rfl, _, _, rfl, .inl (s3.seq W.lst), ?_⟩
      rw [List.length_map, W.len]
      refine ⟨a, ks.length, r, rfl, Same.tup s3 e4, ok r (List.mem_of_getElem? hr'), ?_⟩
      exact ⟨_, rfl, iteF ⟨_, _, rfl, s3⟩⟩
    · rintro σ H2 ⟨v1, v2, rfl, s2⟩
      exact q _ s2
def sp_check_memory (K : PySem.W.Frag) : Sp := fun vs H Q _ => ∃ (l : Addr) (ws : List Int), vs = [.ref l] ∧ SqL K H l (ws.map V.int) ∧ 4 ≤ ws.length ∧ ws.length ≤ 32 ∧ (∀ x ∈ ws, rg 0 999 x) ∧ Q .non H
theorem ok_check_memory (T : T w K mg) : FnR P w K mg base CX0 3 (He.ga K "check_memory") (sp_check_memory K) := by
  have F_is_part : FnR P w K mg base CX0 2 _ _ := ok_is_part T
  obtain ⟨t1, g_FEWEST_WORDS⟩ := T.i_FEWEST_WORDS
  obtain ⟨t2, g_MOST_WORDS⟩ := T.i_MOST_WORDS
  obtain ⟨fd, F⟩ := T.f_check_memory
  refine F.r sc_check_memory (fun _ _ _ _ _ _ us hl => match us, hl with | [_], _ => rfl) (fun vs H Q E h => ?_) (fun cdv A outer s H vs Q E hr h => ?_)
  · obtain ⟨_, _, rfl, _⟩ := h
    rfl
  · obtain ⟨l, ws, rfl, hl, w4, w32, ok, q⟩ := h
    refine ⟨_, (pss_cons (ps_if (PW.pt (pw_or (pt_not (pt_val (pe_isi (n := "list") rfl T.u_isinstance rfl T.u_list (pv 0)))) (pw_or1 (pt_not (pt_chain op_le op_le (pe_glob (v := .int 4) rfl g_FEWEST_WORDS ⟨_, rfl⟩) (pe_callB call_len_seq rfl T.u_len PySem.boot_len (pa_cons (pv 0) pa_nil)) (pe_glob (v := .int 32) rfl g_MOST_WORDS ⟨_, rfl⟩))))))
      (pss_one ps_never)
      pss_nil)
      (pss_one (ps_for PassesOwn.never rfl (pi_list (pv 0)) (pg_name (i := 1) sc_check_memory.nd rfl (Or.inl rfl))
      (pss_one (ps_if (pt_not (pt_val (pe_callR F_is_part (hr.mono (by decide)) rfl T.g_is_part T.k_is_part (pa_cons (pv 1) (pa_cons pe_str pa_nil)))))
      (pss_one ps_never)
      pss_nil))))), ?_⟩
    refine ⟨_, rfl, rfl, _, .lst hl, _, rfl, iteF ?_⟩ -- isinstance(memory, list)
    refine ⟨_, rfl, _, _, rfl, .inl hl, _, _, rfl, rfl, ?_⟩
    rw [List.length_map]
    refine ⟨decide ((4 : Int) ≤ (ws.length : Int)), rfl, ?_⟩
    rw [decide_eq_true (show (4 : Int) ≤ (ws.length : Int) by omega)]
    refine iteT ?_
    refine ⟨_, _, rfl, rfl, decide ((ws.length : Int) ≤ (32 : Int)), rfl, ?_⟩
    rw [decide_eq_true (show (ws.length : Int) ≤ (32 : Int) by omega)]
    refine iteF ?_
    refine ⟨_, rfl, l, rfl, ⟨_, hl⟩, for_list (K := K) (a := l) (xs := ws.map V.int) (fun i σ H2 => ∃ v1, σ = [some (.ref l), v1] ∧ H2 = H) ⟨none, rfl, rfl⟩ (fun i σ H2 _ ⟨_, _, e⟩ => by rw [e]; exact hl) ?_ ?_⟩
    · rintro i x σ H2 hx ⟨v1, rfl, rfl⟩
      rw [List.getElem?_map] at hx
      cases hy : ws[i]? with
      | none => rw [hy] at hx; cases hx
      | some y =>
        rw [hy] at hx
        cases hx
        refine ⟨_, rfl, _, _, 0, 999, "int", rfl, T.e_BOUNDS_word, .int _, ?_⟩
        rw [num_ok (ok y (List.mem_of_getElem? hy))]
        exact ⟨_, rfl, iteF ⟨_, rfl, rfl⟩⟩
    · rintro σ H2 ⟨v1, rfl, rfl⟩
      exact q
structure AsksAt (K : PySem.W.Frag) (H : Hp) (al : Addr) (qs : List Addr) (as : List (Int × Int)) : Prop where
  lst : SqL K H al (qs.map V.ref)
  len : qs.length = as.length
  at_ : ∀ (j : Nat) (t : Addr) (a : Int × Int), qs[j]? = some t → as[j]? = some a → SqT K H t [.int a.1, .int a.2]
theorem AsksAt.same {H H' : Hp} {al : Addr} {qs : List Addr} {as : List (Int × Int)} (A : AsksAt K H al qs as) (s : Same H H') : AsksAt K H' al qs as := ⟨s.seq A.lst, A.len, fun j t k h1 h2 => Same.tup s (A.at_ j t k h1 h2)⟩
structure AOk (n : Nat) (as : List (Int × Int)) : Prop where
  len : as.length ≤ 8
  each : ∀ a ∈ as, rg 0 200 a.1 ∧ 0 ≤ a.2 ∧ a.2 < n
  srt : ∀ (i : Nat) a b, as[i]? = some a → as[i + 1]? = some b → a.1 ≤ b.1
def sp_check_asks (K : PySem.W.Frag) : Sp := fun vs H Q _ => ∃ (al wl : Addr) (qs ts : List Addr) (as : List (Int × Int)) (ks : List Wk), vs = [.ref al, .ref wl] ∧ AsksAt K H al qs as ∧ WorksAt K H wl ts ks ∧ AOk ks.length as ∧ ∀ H', Same H H' → Q .non H'
theorem ok_check_asks (T : T w K mg) : FnR P w K mg base CX0 4 (He.ga K "check_asks") (sp_check_asks K) := by
  have F_is_ask : FnR P w K mg base CX0 3 _ _ := ok_is_ask T
  obtain ⟨t1, g_MOST_ASKS⟩ := T.i_MOST_ASKS
  obtain ⟨fd, F⟩ := T.f_check_asks
  refine F.r sc_check_asks (fun _ _ _ _ _ _ us hl => match us, hl with | [_, _], _ => rfl) (fun vs H Q E h => ?_) (fun cdv A outer s H vs Q E hr h => ?_)
  · obtain ⟨_, _, _, _, _, _, rfl, _⟩ := h
    rfl
  · obtain ⟨al, wl, qs, ts, as, ks, rfl, A', W, ok, q⟩ := h
    refine ⟨_, (pss_cons (ps_if (pt_not (pt_val (pe_isi (n := "list") rfl T.u_isinstance rfl T.u_list (pv 0))))
      (pss_one ps_never)
      pss_nil)
      (pss_cons (ps_set (i := 2) sc_check_asks.nd rfl (Or.inl rfl) pe_int)
      (pss_one (ps_for PassesOwn.never rfl (pi_enum rfl T.u_enumerate (pa_cons (pv 0) pa_nil)) (pg_tup rfl (pgs_cons (pg_name (i := 3) sc_check_asks.nd rfl (Or.inl rfl)) (pgs_cons (pg_name (i := 4) sc_check_asks.nd rfl (Or.inl rfl)) pgs_nil)))
      (pss_cons (ps_if (PW.pt (pw_or (pt_cmpR op_eq (pv 3) (pe_glob (v := .int 8) rfl g_MOST_ASKS ⟨_, rfl⟩) (nomark _)) (pw_or1 (pt_not (pt_val (pe_callR F_is_ask (hr.mono (by decide)) rfl T.g_is_ask T.k_is_ask (pa_cons (pv 4) (pa_cons (pe_callB call_len_seq rfl T.u_len PySem.boot_len (pa_cons (pv 1) pa_nil)) (pa_cons (pv 2) pa_nil)))))))))
      (pss_one ps_never)
      pss_nil)
      (pss_one (ps_set (i := 2) sc_check_asks.nd rfl (Or.inl rfl) (pe_ix ix_tup (pv 4) pe_int (fun _ _ => rfl))))))))), ?_⟩
    refine ⟨_, rfl, rfl, _, .lst A'.lst, _, rfl, iteF ?_⟩ -- isinstance(asks, list)
    refine ⟨_, rfl, al, qs.map V.ref, rfl, A'.lst, for_it walk_enum (fun i σ H2 => ∃ (e : Int) (v3 v4 : Option V), σ = [some (.ref al), some (.ref wl), some (.int e), v3, v4] ∧ Same H H2 ∧ (∀ a, as[i]? = some a → e ≤ a.1)) ⟨0, none, none, rfl, Same.refl H, fun a ha => (ok.each a (List.mem_of_getElem? ha)).1.1⟩ (fun i σ H2 _ ⟨_, _, _, _, s2, _⟩ => s2.seq A'.lst) ?_ ?_⟩
    · rintro i x σ H2 H3 hi ⟨e, v3, v4, rfl, s2, he⟩ ⟨t, y, z, rfl, ht, rfl, e1, e2⟩
      cases e1
      rw [List.length_map] at hi
      have hi2 : i < as.length := by rw [← A'.len]; exact hi
      obtain ⟨r, hr'⟩ : ∃ r, as[i]? = some r := ⟨_, List.getElem?_eq_getElem hi2⟩
      obtain ⟨a, e3⟩ : ∃ a, qs[i]? = some a := ⟨_, List.getElem?_eq_getElem hi⟩
      have e4 := A'.at_ i a r e3 hr'
      have e2 : (qs.map V.ref)[i]? = some z := e2
      rw [List.getElem?_map, e3] at e2
      cases e2
      have s3 : Same H (upd H2 t (.tup [.int (i : Int), .ref a])) := s2.trans (Same.new (Same.refl H2) ht)
      have hok := ok.each r (List.mem_of_getElem? hr')
      have l8 := ok.len
      refine ⟨t, _, rfl, .inl (.inl upd_same), rfl, _, _, rfl, _, _, rfl, rfl, ?_⟩
      refine ⟨_, rfl, rfl, _, rfl, ?_⟩
      rw [dec_int', decide_eq_false (by omega)]
      refine iteF ?_
      refine ⟨_, rfl, _, rfl, _, _, rfl, .inl (s3.seq W.lst), ?_⟩
      rw [List.length_map, W.len]
      refine ⟨_, rfl, a, ks.length, r.1, r.2, e, rfl, Same.tup s3 e4, hok.1, he r hr', hok.2.1, hok.2.2, ?_⟩
      refine ⟨_, rfl, iteF ?_⟩
      refine ⟨_, rfl, _, _, _, _, rfl, rfl, Same.tup s3 e4, at0 _ _, ?_⟩
      exact ⟨r.1, _, _, rfl, s3, fun b hb => ok.srt i r b hr' hb⟩
    · rintro σ H2 ⟨e, v3, v4, rfl, s2, _⟩
      exact q _ s2
end
end SB

set_option Elab.async false
set_option linter.all false
set_option maxRecDepth 100000
set_option maxHeartbeats 2000000
namespace SB
open PySem L2
structure HS where
  prog : List Row
  asks : List (Int × Int)
  S : MS
  ks : List Wk
  took : Bool
  ws : List Int
  beats : Int
def askOne (b : Int) (ks : List Wk) (a : Int × Int) : List Wk := if a.1 = b then ks.modify a.2.toNat Wk.start else ks
def askAll (b : Int) (ks : List Wk) (as : List (Int × Int)) : List Wk := as.foldl (askOne b) ks
def HS.dm (s : HS) := devMove (askAll s.beats s.ks s.asks) s.took (wantedOf s.prog s.S).isSome s.S.marks s.ws
def HS.ms (s : HS) := mstep s.prog s.S s.dm.1 s.dm.2.1 s.dm.2.2.1
def HS.next (s : HS) : HS := { s with S := s.ms.1, ks := s.ms.2.1, took := s.dm.2.1, ws := s.ms.2.2.1, beats := s.beats + 1 }
def askedOf (s : HS) : List Int := (s.asks.filter fun a => decide (a.1 = s.beats)).map (·.2)
def HS.wake (s : HS) (g : GH) : GH := ({ g with nb := g.G.length } : GH).startAll (askedOf s)
def HS.gmove (s : HS) (g : GH) : GH := devG (askAll s.beats s.ks s.asks) s.took (wantedOf s.prog s.S).isSome s.S.marks s.ws s.beats (s.wake g)
def HS.gnext (s : HS) (g : GH) : GH := mstepG s.prog s.S s.dm.2.1 (s.gmove g)
theorem startAll_asks {b : Int} : ∀ {as : List (Int × Int)} {ks : List Wk}, startAll ks ((as.filter fun a => decide (a.1 = b)).map (·.2)) = askAll b ks as
  | [], ks => rfl
  | a :: r, ks => by
    have ih := fun ks' => startAll_asks (b := b) (as := r) (ks := ks')
    show startAll ks (((a :: r).filter fun a => decide (a.1 = b)).map (·.2)) = askAll b (askOne b ks a) r
    by_cases h : a.1 = b
    · rw [List.filter_cons_of_pos (by simpa using h)]
      unfold askOne
      rw [if_pos h]
      exact ih _
    · rw [List.filter_cons_of_neg (by simpa using h)]
      unfold askOne
      rw [if_neg h]
      exact ih _
structure HOk (s : HS) : Prop where
  m : MOk s.prog s.S
  w0 : 0 < s.ws.length
  k : ∀ k ∈ s.ks, WkOk 3 k
  a : ∀ a ∈ s.asks, 0 ≤ a.2
  a8 : s.asks.length ≤ 8
  l6 : s.ks.length ≤ 6
theorem Row.beats_pos {r : Row} {n : Nat} (h : r.ok n) : 0 < r.beats := by
  cases r <;> simp [Row.beats, Row.ok, rg] at h ⊢ <;> omega
theorem WkOk.start {n : Nat} {k : Wk} (h : WkOk n k) : WkOk n k.start := by
  unfold Wk.start
  split
  · exact h
  · exact h
theorem WkOk.move {n : Nat} {k : Wk} {ws : List Int} (h : WkOk n k) : WkOk n (k.move ws).1 := by
  unfold Wk.move
  cases k.hand <;> exact h
theorem askAll_ok {b : Int} {n : Nat} : ∀ {as : List (Int × Int)} {ks : List Wk}, (∀ k ∈ ks, WkOk n k) → ∀ k ∈ askAll b ks as, WkOk n k
  | [], ks, h => h
  | a :: r, ks, h => by
    show ∀ k ∈ askAll b (askOne b ks a) r, WkOk n k
    refine askAll_ok (fun k hk => ?_)
    unfold askOne at hk
    split at hk
    · exact all_modify (fun x hx => hx.start) h k hk
    · exact h k hk
theorem askAll_len {b : Int} : ∀ {as : List (Int × Int)} {ks : List Wk}, (askAll b ks as).length = ks.length
  | [], ks => rfl
  | a :: r, ks => by
    show (askAll b (askOne b ks a) r).length = ks.length
    rw [askAll_len]
    unfold askOne
    split
    · exact List.length_modify _ _ _
    · rfl
theorem devMove_ok {n : Nat} {ks : List Wk} {took wanted : Bool} {ms : List Bool} {ws : List Int} (h : ∀ k ∈ ks, WkOk n k) : ∀ k ∈ (devMove ks took wanted ms ws).1, WkOk n k := by
  unfold devMove
  cases ks.findIdx? (takes ms wanted took) with
  | none => exact h
  | some j =>
    cases hk : ks[j]? with
    | none => simp only [hk]; exact h
    | some k =>
      have hk' := h k (List.mem_of_getElem? hk)
      simp only [hk]
      split
      · exact all_set h hk'.move
      · split
        · exact all_set h hk'.move
        · exact all_modify (fun x hx => hx.start) (all_set h hk'.move)
theorem devMove_len {ks : List Wk} {took wanted : Bool} {ms : List Bool} {ws : List Int} : (devMove ks took wanted ms ws).1.length = ks.length ∧ (devMove ks took wanted ms ws).2.2.1.length = ws.length := by
  unfold devMove
  cases ks.findIdx? (takes ms wanted took) with
  | none => exact ⟨rfl, rfl⟩
  | some j =>
    cases hk : ks[j]? with
    | none => simp [hk]
    | some k =>
      simp only [hk]
      constructor
      · split
        · simp
        · split <;> simp
      · unfold Wk.move
        cases k.hand <;> simp
theorem eff_ks_ok {n m : Nat} {S : MS} {ks : List Wk} {r : Row} (h : ∀ k ∈ ks, WkOk n k) : ∀ k ∈ (eff m S ks r).2, WkOk n k := by
  cases r <;> first | exact h | exact all_modify (fun x hx => hx.start) h
theorem eff_len {m : Nat} {S : MS} {ks : List Wk} {r : Row} : (eff m S ks r).2.length = ks.length := by
  cases r <;> first | rfl | exact List.length_modify _ _ _
theorem eff_m {prog : List Row} {S : MS} {ks : List Wk} {r : Row} (ok : r.ok prog.length) (hr : 0 ≤ S.row) (hn : S.row < prog.length) : (eff prog.length S ks r).1.cells.length = S.cells.length ∧ (eff prog.length S ks r).1.marks.length = S.marks.length ∧
    0 ≤ (eff prog.length S ks r).1.row ∧ (eff prog.length S ks r).1.row ≤ prog.length ∧ (eff prog.length S ks r).1.spent = 0 := by
  cases r <;> simp [eff, Row.ok] at ok ⊢ <;> first | omega | (split <;> omega)
theorem tick_m {prog : List Row} {S : MS} {ks : List Wk} {r : Row} (ok : r.ok prog.length) (hr : 0 ≤ S.row) (hn : prog[S.row.toNat]? = some r) (h0 : 0 ≤ S.spent) (h1 : S.spent ≤ r.beats) (c4 : S.cells.length = 4) (m3 : S.marks.length = 3) (hp : ∀ r ∈ prog, r.ok prog.length) :
    MOk prog (tick prog.length S ks r).1 := by
  have hlt : S.row < prog.length := by
    have := (List.getElem?_eq_some_iff.mp hn).1
    omega
  unfold tick
  split
  · obtain ⟨a1, a2, a3, a4, a5⟩ := eff_m (ks := ks) ok hr hlt
    exact ⟨by rw [a1]; exact c4, by rw [a2]; exact m3, a3, a4, by rw [a5]; exact Int.le_refl 0, fun r' h' => by rw [a5]; exact Row.beats_pos (hp r' (List.mem_of_getElem? h')), hp⟩
  · rename_i hne
    refine ⟨c4, m3, hr, Int.le_of_lt hlt, h0, fun r' h' => ?_, hp⟩
    have e : r' = r := by
      have h'' : prog[S.row.toNat]? = some r' := h'
      rw [hn] at h''
      exact (Option.some.inj h'').symm
    rw [e]
    show S.spent < r.beats
    omega
theorem useW_len {z : Str} {p cl : Int} {cells ws : List Int} : (useW z p cl cells ws).1.length = cells.length ∧ (useW z p cl cells ws).2.1.length = ws.length := by
  unfold useW
  split <;> simp
theorem tick_ks {n m : Nat} {S : MS} {ks : List Wk} {r : Row} (h : ∀ k ∈ ks, WkOk n k) : ∀ k ∈ (tick m S ks r).2, WkOk n k := by
  unfold tick
  split
  · exact eff_ks_ok h
  · exact h
theorem tick_len {m : Nat} {S : MS} {ks : List Wk} {r : Row} : (tick m S ks r).2.length = ks.length := by
  unfold tick
  split
  · exact eff_len
  · rfl
theorem mstep_ok {prog : List Row} {S : MS} {ks : List Wk} {took : Bool} {ws : List Int} (O : MOk prog S) : MOk prog (mstep prog S ks took ws).1 := by
  unfold mstep
  cases e1 : prog[S.row.toNat]? with
  | none => exact O
  | some r =>
    have rok := O.rows r (List.mem_of_getElem? e1)
    have s1 := O.sp1 r e1
    have s0 := O.sp0
    cases hwd : r.word S.spent S.cells with
    | none =>
      simp only [hwd]
      exact tick_m rok O.row0 e1 (by show 0 ≤ S.spent + 1; omega) (by show S.spent + 1 ≤ _; omega) O.c4 O.m3 O.rows
    | some zz =>
      obtain ⟨z, p, cl⟩ := zz
      simp only [hwd]
      split
      · exact O
      · exact tick_m rok O.row0 e1 (by show 0 ≤ S.spent + 1; omega) (by show S.spent + 1 ≤ _; omega) (by show (useW z p cl S.cells ws).1.length = 4; rw [useW_len.1]; exact O.c4) O.m3 O.rows
theorem mstep_ks {prog : List Row} {S : MS} {ks : List Wk} {took : Bool} {ws : List Int} {n : Nat} (h : ∀ k ∈ ks, WkOk n k) : ∀ k ∈ (mstep prog S ks took ws).2.1, WkOk n k := by
  unfold mstep
  cases e1 : prog[S.row.toNat]? with
  | none => exact h
  | some r =>
    cases hwd : r.word S.spent S.cells with
    | none => simp only [hwd]; exact tick_ks h
    | some zz =>
      obtain ⟨z, p, cl⟩ := zz
      simp only [hwd]
      split
      · exact h
      · exact tick_ks h
theorem mstep_len {prog : List Row} {S : MS} {ks : List Wk} {took : Bool} {ws : List Int} : (mstep prog S ks took ws).2.1.length = ks.length ∧ (mstep prog S ks took ws).2.2.1.length = ws.length := by
  unfold mstep
  cases e1 : prog[S.row.toNat]? with
  | none => exact ⟨rfl, rfl⟩
  | some r =>
    cases hwd : r.word S.spent S.cells with
    | none => simp only [hwd]; exact ⟨tick_len, trivial⟩
    | some zz =>
      obtain ⟨z, p, cl⟩ := zz
      simp only [hwd]
      split
      · exact ⟨rfl, rfl⟩
      · exact ⟨tick_len, useW_len.2⟩
theorem HOk.next {s : HS} (O : HOk s) : HOk s.next := by
  refine ⟨mstep_ok O.m, ?_, ?_, O.a, O.a8, ?_⟩
  · show 0 < s.ms.2.2.1.length
    unfold HS.ms
    rw [mstep_len.2]
    unfold HS.dm
    rw [devMove_len.2]
    exact O.w0
  · exact mstep_ks (devMove_ok (askAll_ok O.k))
  · show s.ms.2.1.length ≤ 6
    unfold HS.ms
    rw [mstep_len.1]
    unfold HS.dm
    rw [devMove_len.1, askAll_len]
    exact O.l6
end SB

set_option Elab.async false
set_option linter.all false
set_option maxRecDepth 100000
set_option maxHeartbeats 2000000
namespace SB
open PySem L2
structure FA where
  (h dh m dm pa c k lw al : Addr)
  (rs qs : List Addr)
  da : DA
def FA.own (a : FA) : List Addr := [a.h, a.m, a.c, a.k, a.lw]
def FA.foot (a : FA) : List Addr := a.own ++ a.da.foot
structure FlAt (K : PySem.W.Frag) (H : Hp) (a : FA) (s : HS) (g : GH) : Prop where
  ob : H a.h = some (.ins (cFloor K) a.dh (flF ⟨a.m, a.da.d, a.lw, a.al, s.beats⟩))
  mc : McAt K H a.m a.dm a.pa a.rs s.prog a.c a.k s.S
  dv : DevAt K H a.da s.ks s.took g
  wd : H a.lw = some (.lst (s.ws.map V.int))
  als : H a.al = some (.lst (a.qs.map V.ref))
  alen : a.qs.length = s.asks.length
  aat : ∀ (j : Nat) (t : Addr) (x : Int × Int), a.qs[j]? = some t → s.asks[j]? = some x → SqT K H t [.int x.1, .int x.2]
  nal : a.al ∉ a.foot
  ap : ∀ b ∈ a.own, b ∉ a.da.foot
  hm : a.h ≠ a.m
  wc : a.lw ≠ a.c
  wk : a.lw ≠ a.k
section
variable {P : Program} {w : World} {K : PySem.W.Frag} {mg : Str → Option Value} {base : Heap} {H H' : Hp} {a : FA} {s : HS} {g : GH}
theorem FlAt.inO (A : FlAt K H a s g) : ∀ b ∈ a.own, ∃ u, H b = some u ∧ notTup u = true := fun b hb => by
  unfold FA.own at hb
  simp only [List.mem_cons] at hb
  rcases hb with rfl | rfl | rfl | rfl | rfl | hb
  · exact ⟨_, A.ob, rfl⟩
  · exact ⟨_, A.mc.ob, rfl⟩
  · exact ⟨_, A.mc.hc, rfl⟩
  · exact ⟨_, A.mc.hk, rfl⟩
  · exact ⟨_, A.wd, rfl⟩
  · cases hb
theorem FlAt.inF (A : FlAt K H a s g) : ∀ b ∈ a.foot, ∃ u, H b = some u ∧ notTup u = true := fun b hb => by
  rcases List.mem_append.mp hb with hb | hb
  · exact A.inO b hb
  · exact A.dv.inF b hb
theorem ne_of_none' {a b : Addr} {o : HO} (h : H a = some o) (h' : H b = none) : b ≠ a := Ne.symm (ne_of_none h h')
theorem FlAt.change (A : FlAt K H a s g) {s' : HS} {da : DA} {g' : GH} (hp : s'.prog = s.prog) (ha : s'.asks = s.asks) (st : Stp a.own a.da.foot H da.foot H') (ob : H' a.h = some (.ins (cFloor K) a.dh (flF ⟨a.m, da.d, a.lw, a.al, s'.beats⟩)))
    (mc : McAt K H' a.m a.dm a.pa a.rs s'.prog a.c a.k s'.S) (dv : DevAt K H' da s'.ks s'.took g') (wd : H' a.lw = some (.lst (s'.ws.map V.int))) : FlAt K H' { a with da := da } s' g' := by
  refine ⟨ob, mc, dv, wd, st.kp _ _ A.als A.nal, by rw [ha]; exact A.alen, fun j t x h1 h2 => tup_keep (A.aat j t x h1 (by rw [← ha]; exact h2)) st.kp A.inF, fun z => ?_, fun b hb => ?_, A.hm, A.wc, A.wk⟩
  · have z' : a.al ∈ a.own ++ da.foot := z
    rcases List.mem_append.mp z' with z | z
    · exact A.nal (List.mem_append.mpr (.inl z))
    · exact st.apart A.als (fun y => A.nal (List.mem_append.mpr (.inr y))) z
  · obtain ⟨u, hu, _⟩ := A.inO b hb
    exact st.apart hu (A.ap b hb)
theorem FlAt.same (A : FlAt K H a s g) (e : Same H H') : FlAt K H' a s g := A.change (da := a.da) rfl rfl (Stp.same e) (e _ _ A.ob) (A.mc.same e) (A.dv.same e) (e _ _ A.wd)
theorem FlAt.stay (A : FlAt K H a s g) {as : List Addr} (k : Kept as H H') (h : ∀ b ∈ a.foot, b ∉ as) (h2 : a.al ∉ as) (hn : ∀ b ∈ as, ∃ u, H b = some u ∧ notTup u = true) : FlAt K H' a s g := by
  have ho : ∀ b ∈ a.own, b ∉ as := fun b hb => h b (List.mem_append.mpr (.inl hb))
  refine ⟨k _ _ A.ob (ho _ (by simp [FA.own])), A.mc.stay k (fun b hb => ho b (by
    simp only [List.mem_cons] at hb
    simp only [FA.own, List.mem_cons]
    rcases hb with h | h | h | h
    · exact .inr (.inl h)
    · exact .inr (.inr (.inl h))
    · exact .inr (.inr (.inr (.inl h)))
    · cases h)) hn, A.dv.stay k (fun b hb => h b (List.mem_append.mpr (.inr hb))) hn, k _ _ A.wd (ho _ (by simp [FA.own])), k _ _ A.als h2, A.alen, fun j t x h1 h2 => tup_keep (A.aat j t x h1 h2) k hn, A.nal, A.ap, A.hm, A.wc, A.wk⟩
def ToldB (H H' : Hp) (v : V) (x : Option (Int × Str × Int × Int)) (y : MT) : Prop := ∃ p v1 v2, v = .ref p ∧ H p = none ∧ H' p = some (.tup [v1, v2]) ∧ Told H H' v1 x ∧ ToldM H H' v2 y
theorem Told.keep {H H1 H2 : Hp} {v : V} {y : Option (Int × Str × Int × Int)} (t : Told H H1 v y) (h : ∀ q us, H1 q = some (.tup us) → H2 q = some (.tup us)) : Told H H2 v y := by
  cases y with
  | none => exact t
  | some z =>
    obtain ⟨z1, z2, z3, z4⟩ := z
    obtain ⟨q, e, h1, h2⟩ := t
    exact ⟨q, e, h1, h _ _ h2⟩
theorem Told.early {H0 H H1 : Hp} {v : V} {y : Option (Int × Str × Int × Int)} (t : Told H H1 v y) (h : ∀ b, H b = none → H0 b = none) : Told H0 H1 v y := by
  cases y with
  | none => exact t
  | some z =>
    obtain ⟨z1, z2, z3, z4⟩ := z
    obtain ⟨q, e, h1, h2⟩ := t
    exact ⟨q, e, h _ h1, h2⟩
theorem ToldM.early {H0 H H1 : Hp} {v : V} {y : MT} (t : ToldM H H1 v y) (h : ∀ b, H b = none → H0 b = none) : ToldM H0 H1 v y := by
  cases y with
  | word z a x =>
    obtain ⟨q, e, h1, h2⟩ := t
    exact ⟨q, e, h _ h1, h2⟩
  | _ => exact t
structure FLe (a a' : FA) : Prop where
  h : a'.h = a.h
  o : a'.own = a.own
  al : a'.al = a.al
  d : DLe a.da a'.da
theorem FLe.refl (a : FA) : FLe a a := ⟨rfl, rfl, rfl, DLe.refl _⟩
theorem FLe.trans {a b c : FA} (x : FLe a b) (y : FLe b c) : FLe a c := ⟨y.h.trans x.h, y.o.trans x.o, y.al.trans x.al, x.d.trans y.d⟩
theorem HOk.gl (O : HOk s) (g : GH) : (s.wake g).G.length < (s.wake g).nb + 100 := by
  have h := GH.startAll_len (ns := askedOf s) (g := ({ g with nb := g.G.length } : GH))
  have h8 : (askedOf s).length ≤ 8 := by
    unfold askedOf
    rw [List.length_map]
    exact Nat.le_trans (List.length_filter_le _ _) O.a8
  unfold HS.wake
  rw [h.2]
  have h1 := h.1
  show _ < g.G.length + 100
  have e : (({ g with nb := g.G.length } : GH)).G.length = g.G.length := rfl
  rw [e] at h1
  omega
theorem devG_len {ks : List Wk} {took wanted : Bool} {ms : List Bool} {ws : List Int} {when : Int} {g : GH} : (devG ks took wanted ms ws when g).G.length ≤ g.G.length + 1 ∧ (devG ks took wanted ms ws when g).nb = g.nb := by
  unfold devG
  cases ks.findIdx? (takes ms wanted took) with
  | none => simp
  | some j =>
    cases hk : ks[j]? with
    | none => simp only [hk]; simp
    | some k =>
      simp only [hk]
      have h1 := GH.move_len (g := g) (j := j) (k := k) (when := when) (ws := ws)
      split
      · omega
      · split
        · omega
        · rename_i f _
          have h2 := GH.start_len (g := g.move j k when ws) (n := f.toNat)
          omega
def sp_Floor_pass_beat (K : PySem.W.Frag) : Sp := fun vs H Q _ => ∃ (a : FA) (s : HS) (g : GH), vs = [.ref a.h] ∧ FlAt K H a s g ∧ HOk s ∧ ∀ H' a' v, FLe a a' → FlAt K H' a' s.next (s.gnext g) → Step a.foot H a'.foot H' → ToldB H H' v s.dm.2.2.2 s.ms.2.2.2 → Q v H'
theorem ok_Floor_pass_beat (T : T w K mg) : FnR P w K mg base CX0 6 (He.ma K (He.ga K "Floor") "pass_beat") (sp_Floor_pass_beat K) := by
  have F_Device_wake : FnR P w K mg base CX0 4 _ _ := ok_Device_wake T
  have F_Device_move : FnR P w K mg base CX0 4 _ _ := ok_Device_move T
  have F_Machine_wanted : FnR P w K mg base CX0 2 _ _ := ok_Machine_wanted T
  have F_Machine_step : FnR P w K mg base CX0 5 _ _ := ok_Machine_step T
  obtain ⟨fd, F⟩ := T.f_Floor_pass_beat
  refine F.r sc_Floor_pass_beat (fun _ _ _ _ _ _ us hl => match us, hl with | [_], _ => rfl) (fun vs H Q E h => ?_) (fun cdv A outer s0 H vs Q E hr h => ?_)
  · obtain ⟨_, _, _, rfl, _⟩ := h
    rfl
  · obtain ⟨a, s, g, rfl, L, O, q⟩ := h
    refine ⟨_, (pss_cons (ps_expr (pe_mthR (pe_fld (pv 0) rfl) T.cl_Device T.m_Device_wake F_Device_wake (hr.mono (by decide)) (pa_cons (pe_lc (own := [("when", 4), ("work", 5)]) (g := gTup K 2 (gCons (gName 4) (gCons (gName 5) gNil))) (tt := tTest (tOp rEq (tVar 4) (tFld K (tVar 0) "beats"))) (te := tVar 5) rfl sc_Floor_pass_beat.nd (pi_list (pe_fld (pv 0) rfl))
        (blkOk_by (N := ["self", "wanted", "moved", "done", "when", "work"]) (sc := defScope s_Floor_pass_beat) (by decide +kernel))
        (fun _ _ _ _ _ => pg_tup rfl (pgs_cons (pg_name (i := 4) sc_Floor_pass_beat.nd rfl (Or.inl rfl)) (pgs_cons (pg_name (i := 5) sc_Floor_pass_beat.nd rfl (Or.inl rfl)) pgs_nil)))
        (fun _ _ _ _ _ => pts_one (pt_cmpR op_eq (pv 4) (pe_fld (pv 0) rfl) (nomark _)))
        (fun _ _ _ _ _ => pv 5)) pa_nil)))
      (pss_cons (ps_set (i := 1) sc_Floor_pass_beat.nd rfl (Or.inl rfl) (pe_cmp (pc_notN (pe_mth0R (pe_fld (pv 0) rfl) T.cl_Machine T.m_Machine_wanted F_Machine_wanted (hr.mono (by decide))))))
      (pss_cons (ps_set (i := 2) sc_Floor_pass_beat.nd rfl (Or.inl rfl) (pe_mthR (pe_fld (pv 0) rfl) T.cl_Device T.m_Device_move F_Device_move (hr.mono (by decide)) (pa_cons (pe_fld (pv 0) rfl) (pa_cons (pv 1) (pa_cons (pe_fld (pe_fld (pv 0) rfl) rfl) (pa_cons (pe_fld (pv 0) rfl) pa_nil))))))
      (pss_cons (ps_set (i := 3) sc_Floor_pass_beat.nd rfl (Or.inl rfl) (pe_mthR (pe_fld (pv 0) rfl) T.cl_Machine T.m_Machine_step F_Machine_step (hr.mono (by decide)) (pa_cons (pe_fld (pv 0) rfl) (pa_cons (pe_fld (pv 0) rfl) pa_nil))))
      (pss_cons (ps_fldaug (pv 0) pe_int in_add)
      (pss_one (ps_ret (pe_tup (pa_cons (pv 2) (pa_cons (pv 3) pa_nil)))))))))), ?_⟩
    refine ⟨_, rfl, _, _, _, _, _, rfl, L.ob, T.cl_Floor, T.n_Floor_device, fl_device _, ?_⟩
    refine ⟨_, _, _, rfl, L.dv.ob, dv_no_wake _, ?_⟩
    refine ⟨_, rfl, _, _, _, _, _, rfl, L.ob, T.cl_Floor, T.n_Floor_asks, fl_asks _, ?_⟩
    refine ⟨a.al, rfl, ⟨_, SqL.of L.als⟩, fun R hR => ?_⟩
    refine lc_list (K := K) (a := a.al) (xs := a.qs.map V.ref) (fun i H2 => H2 R = some (.lst ((((s.asks.take i).filter fun a => decide (a.1 = s.beats)).map (·.2)).map V.int)) ∧ Same H H2)
      ⟨upd_same, Same.new (Same.refl H) hR⟩ (fun i H2 _ ⟨_, s2⟩ => SqL.of (s2 _ _ L.als)) ?_ ?_
    · rintro i x H2 hx ⟨hR2, s2⟩
      rw [List.getElem?_map] at hx
      cases ht : a.qs[i]? with
      | none => rw [ht] at hx; cases hx
      | some t =>
        rw [ht] at hx
        cases hx
        have hi : i < s.asks.length := by rw [← L.alen]; exact (List.getElem?_eq_some_iff.mp ht).1
        obtain ⟨x, hx⟩ : ∃ x, s.asks[i]? = some x := ⟨_, List.getElem?_eq_getElem hi⟩
        have e4 := Same.tup s2 (L.aat i t x ht hx)
        have et : s.asks.take (i + 1) = s.asks.take i ++ [x] := by
          rw [List.take_add_one, hx]
          rfl
        refine ⟨t, _, rfl, e4, rfl, _, _, rfl, _, _, rfl, rfl, rfl, ?_⟩
        refine ⟨_, rfl, _, rfl, _, _, _, _, _, rfl, s2 _ _ L.ob, T.cl_Floor, T.n_Floor_beats, fl_beats _, rfl, _, rfl, ?_⟩
        rw [dec_int']
        by_cases g1 : x.1 = s.beats
        · rw [decide_eq_true g1]
          refine iteT ?_
          refine ⟨_, rfl, _, hR2, ?_, ?_, ?_⟩
          · rw [List.length_map, List.length_map]
            have h1 := List.length_filter_le (fun a : Int × Int => decide (a.1 = s.beats)) (s.asks.take i)
            rw [List.length_take] at h1
            have h8 := O.a8
            exact Nat.lt_of_le_of_lt (Nat.le_trans h1 (by omega : _ ≤ 8)) (by decide)
          · rw [upd_same, et, List.filter_append, List.filter_cons_of_pos (by simpa using g1)]
            simp
          · exact Same.new s2 hR
        · rw [decide_eq_false g1]
          refine iteF ⟨?_, s2⟩
          rw [et, List.filter_append, List.filter_cons_of_neg (by simpa using g1)]
          simpa using hR2
    · rintro H2 ⟨hR2, s2⟩
      rw [List.length_map, L.alen, List.take_length] at hR2
      have L2 := L.same s2
      have nR : R ∉ a.foot := fun z => by
        obtain ⟨u, hu, _⟩ := L.inF R z
        rw [hR] at hu
        cases hu
      have a8 : (askedOf s).length ≤ 8 := by
        unfold askedOf
        rw [List.length_map]
        exact Nat.le_trans (List.length_filter_le _ _) O.a8
      refine ⟨a.da, _, _, _, R, askedOf s, rfl, L2.dv, hR2, fun z => nR (List.mem_append.mpr (.inr z)), a8, fun n hn => ?_, fun H3 d3 le3 D3 st3 => ?_⟩ -- wake
      · obtain ⟨x, hx, e⟩ := List.mem_map.mp hn
        rw [← e]
        exact O.a x (List.mem_filter.mp hx).1
      have ew : startAll s.ks (askedOf s) = askAll s.beats s.ks s.asks := startAll_asks
      rw [ew] at D3
      have ow : ∀ {b : Addr}, b ∈ a.own → b ∉ a.da.foot := fun hb => L2.ap _ hb
      have own3 : ∀ {b : Addr} {o : HO}, b ∈ a.own → H2 b = some o → H3 b = some o := fun hb h => st3.kp _ _ h (ow hb)
      have mck : ∀ b ∈ [a.m, a.c, a.k], b ∈ a.own := fun b hb => by
        simp only [List.mem_cons] at hb
        simp only [FA.own, List.mem_cons]
        rcases hb with h | h | h | h
        · exact .inr (.inl h)
        · exact .inr (.inr (.inl h))
        · exact .inr (.inr (.inr (.inl h)))
        · cases h
      have L3 : FlAt K H3 { a with da := d3 } { s with ks := askAll s.beats s.ks s.asks } (s.wake g) := by
        refine L2.change (s' := { s with ks := askAll s.beats s.ks s.asks }) rfl rfl (st3.more a.own) ?_ (L2.mc.stay st3.kp (fun b hb => ow (mck b hb)) L2.dv.inF) D3 (own3 (by simp [FA.own]) L2.wd)
        rw [le3.d]
        exact own3 (by simp [FA.own]) L2.ob
      have k03 : Stp a.own a.da.foot H d3.foot H3 := (Stp.same s2).trans (st3.more a.own)
      refine ⟨_, rfl, _, _, _, _, _, rfl, L3.ob, T.cl_Floor, T.n_Floor_machine, fl_machine _, ?_⟩
      refine ⟨_, _, _, rfl, L3.mc.ob, mc_no_wanted _, ?_⟩
      refine ⟨_, _, _, _, _, _, _, _, rfl, L3.mc, O.m, fun H4 wv s4 hwv => ?_⟩ -- self.machine.wanted()
      have L4 := L3.same s4
      have ewv : (!decide (wv = V.non)) = (wantedOf s.prog s.S).isSome := by
        have hwv' : Wtd H3 H4 wv (wantedOf s.prog s.S) := hwv
        cases hw : wantedOf s.prog s.S with
        | none =>
          rw [hw] at hwv'
          have e : wv = .non := hwv'
          rw [e]
          rfl
        | some z =>
          rw [hw] at hwv'
          obtain ⟨z1, z2, z3⟩ := z
          obtain ⟨y, e, _⟩ := hwv'
          rw [e]
          rfl
      dsimp only
      rw [ewv]
      refine ⟨_, rfl, _, _, _, _, _, rfl, L4.ob, T.cl_Floor, T.n_Floor_device, fl_device _, ?_⟩
      refine ⟨_, _, _, rfl, L4.dv.ob, dv_no_move _, ?_⟩
      refine ⟨_, rfl, _, _, _, _, _, rfl, L4.ob, T.cl_Floor, T.n_Floor_beats, fl_beats _, ?_⟩
      refine ⟨_, rfl, ?_⟩ -- wanted
      refine ⟨_, rfl, _, _, _, _, _, rfl, L4.ob, T.cl_Floor, T.n_Floor_machine, fl_machine _, ?_⟩
      refine ⟨_, _, _, _, _, rfl, L4.mc.ob, T.cl_Machine, T.n_Machine_marks, mc_marks _, ?_⟩
      refine ⟨_, rfl, _, _, _, _, _, rfl, L4.ob, T.cl_Floor, T.n_Floor_words, fl_words _, ?_⟩
      have hok3 : ∀ k ∈ askAll s.beats s.ks s.asks, WkOk s.S.marks.length k := by rw [O.m.m3]; exact askAll_ok O.k
      have gl := O.gl g
      refine ⟨d3, _, _, _, _, _, _, _, _, _, rfl, L4.dv, L4.mc.hk, L4.wd, O.w0, L4.ap _ (by simp [FA.own]), hok3, by omega, fun H5 d5 mv le5 D5 hl5 st5 t5 => ?_⟩ -- self.device.move(..)
      have lwo : a.lw ∈ a.own := by simp [FA.own]
      have st5' : Stp a.own d3.foot H4 d5.foot H5 := st5.mono (fun x hx => by
        have e : x = a.lw := by simpa using hx
        rw [e]
        exact lwo)
      have inF4 : ∀ b ∈ [a.lw] ++ d3.foot, ∃ u, H4 b = some u ∧ notTup u = true := fun b hb => by
        rcases List.mem_append.mp hb with hb | hb
        · have e : b = a.lw := by simpa using hb
          rw [e]
          exact ⟨_, L4.wd, rfl⟩
        · exact L4.dv.inF b hb
      have ow4 : ∀ {b : Addr}, b ∈ a.own → b ∉ d3.foot := fun hb => L4.ap _ hb
      have nlw : ∀ {b : Addr}, b ∈ a.own → b ≠ a.lw → b ∉ [a.lw] ++ d3.foot := fun {b} hb hn z => by
        rcases List.mem_append.mp z with z | z
        · exact hn (by simpa using z)
        · exact ow4 hb z
      have mlw : a.m ≠ a.lw := ins_ne_lst L4.mc.ob L4.wd
      have hlw : a.h ≠ a.lw := ins_ne_lst L4.ob L4.wd
      have M5 : McAt K H5 a.m a.dm a.pa a.rs s.prog a.c a.k s.S := L4.mc.stay st5.kp (fun b hb => by
        refine nlw (mck b hb) ?_
        simp only [List.mem_cons] at hb
        rcases hb with rfl | rfl | rfl | h
        · exact mlw
        · exact Ne.symm L.wc
        · exact Ne.symm L.wk
        · cases h) inF4
      have L5 : FlAt K H5 { a with da := d5 } { s with ks := s.dm.1, took := s.dm.2.1, ws := s.dm.2.2.1 } (s.gmove g) := by
        refine L4.change (s' := { s with ks := s.dm.1, took := s.dm.2.1, ws := s.dm.2.2.1 }) rfl rfl st5' ?_ M5 D5 hl5
        rw [le5.d]
        exact st5.kp _ _ L4.ob (nlw (by simp [FA.own]) hlw)
      refine ⟨_, rfl, _, _, _, _, _, rfl, L5.ob, T.cl_Floor, T.n_Floor_machine, fl_machine _, ?_⟩
      refine ⟨_, _, _, rfl, L5.mc.ob, mc_no_step _, ?_⟩
      refine ⟨_, rfl, _, _, _, _, _, rfl, L5.ob, T.cl_Floor, T.n_Floor_words, fl_words _, ?_⟩
      refine ⟨_, rfl, _, _, _, _, _, rfl, L5.ob, T.cl_Floor, T.n_Floor_device, fl_device _, ?_⟩
      have w05 : 0 < s.dm.2.2.1.length := by unfold HS.dm; rw [devMove_len.2]; exact O.w0
      have gl5 : (s.gmove g).G.length < (s.gmove g).nb + 1000 := by
        have h := devG_len (ks := askAll s.beats s.ks s.asks) (took := s.took) (wanted := (wantedOf s.prog s.S).isSome) (ms := s.S.marks) (ws := s.ws) (when := s.beats) (g := s.wake g)
        unfold HS.gmove
        omega
      refine ⟨_, _, _, _, _, _, d5, _, _, _, _, _, _, _, rfl, L5.mc, O.m, L5.dv, fun b hb => L5.ap b (mck b hb), L5.wd, w05, L5.wc, L5.wk, L5.ap _ lwo, gl5, fun H6 d6 dv le6 M6 D6 hl6 st6 t6 => ?_⟩ -- self.machine.step(..)
      have st6' : Stp a.own d5.foot H5 d6.foot H6 := st6.mono (fun x hx => by
        simp only [List.mem_cons] at hx
        simp only [FA.own, List.mem_cons]
        rcases hx with h | h | h | h | h
        · exact .inr (.inl h)
        · exact .inr (.inr (.inl h))
        · exact .inr (.inr (.inr (.inl h)))
        · exact .inr (.inr (.inr (.inr (.inl h))))
        · cases h)
      have hh6 : a.h ∉ [a.m, a.c, a.k, a.lw] ++ d5.foot := fun z => by
        rcases List.mem_append.mp z with z | z
        · simp only [List.mem_cons] at z
          rcases z with z | z | z | z | z
          · exact L5.hm z
          · exact (lst_ne_ins L5.mc.hc L5.ob) z.symm
          · exact (lst_ne_ins L5.mc.hk L5.ob) z.symm
          · exact hlw z
          · cases z
        · exact L5.ap a.h (by simp [FA.own]) z
      have L6 : FlAt K H6 { a with da := d6 } { s with S := s.ms.1, ks := s.ms.2.1, took := s.dm.2.1, ws := s.ms.2.2.1 } (s.gnext g) := by
        refine L5.change (s' := { s with S := s.ms.1, ks := s.ms.2.1, took := s.dm.2.1, ws := s.ms.2.2.1 }) rfl rfl st6' ?_ M6 D6 hl6
        rw [le6.d]
        exact st6.kp _ _ L5.ob hh6
      refine augf L6.ob T.cl_Floor T.n_Floor_beats (fl_beats _) (fl_len _) (fl_put_beats _ _) ?_ -- self.beats += 1
      generalize e7 : upd H6 a.h _ = H7
      have k7 : Kept [a.h] H6 H7 := by rw [← e7]; exact (Kept.refl _ _).put (by simp)
      have f7 : ∀ b, H7 b = none → H6 b = none := fun b h => by rw [← e7] at h; exact upd_none h
      have in7 : ∀ b ∈ [a.h], ∃ u, H6 b = some u ∧ notTup u = true := fun b hb => by
        have e : b = a.h := by simpa using hb
        rw [e]
        exact ⟨_, L6.ob, rfl⟩
      have st7 : Stp a.own d6.foot H6 d6.foot H7 := Stp.of (k7.mono (fun x hx => by
        have e : x = a.h := by simpa using hx
        rw [e]
        exact List.mem_append.mpr (.inl (by simp [FA.own])))) f7
      have no1 : ∀ {b : Addr}, b ≠ a.h → b ∉ [a.h] := fun h => by simpa using h
      have L7 : FlAt K H7 { a with da := d6 } s.next (s.gnext g) := by
        refine L6.change (s' := s.next) rfl rfl st7 (by rw [← e7]; exact upd_same) (L6.mc.stay k7 (fun b hb => no1 ?_) in7) (L6.dv.stay k7 (fun b hb => no1 (fun z => L6.ap a.h (by simp [FA.own]) (by rw [← z]; exact hb))) in7) (k7 _ _ L6.wd (no1 (Ne.symm hlw)))
        simp only [List.mem_cons] at hb
        rcases hb with rfl | rfl | rfl | h
        · exact Ne.symm L6.hm
        · exact lst_ne_ins L6.mc.hc L6.ob
        · exact lst_ne_ins L6.mc.hk L6.ob
        · cases h
      refine ⟨_, rfl, ?_⟩ -- moved
      refine ⟨_, rfl, ?_⟩ -- done
      refine ⟨by show 2 ≤ sizeLine; decide, fun p hp => ?_⟩ -- (moved, done)
      have k04 : Stp a.own a.da.foot H d3.foot H4 := k03.trans (Stp.same s4)
      have k05 := k04.trans st5'
      have k07 := (k05.trans st6').trans st7
      have hp0 : H p = none := k07.fr _ hp
      have s8 : Same H7 (upd H7 p (.tup [mv, dv])) := Same.new (Same.refl _) hp
      have k08 : Stp a.own a.da.foot H d6.foot (upd H7 p (.tup [mv, dv])) := k07.trans (Stp.same s8)
      have inF5 : ∀ b ∈ a.own ++ d5.foot, ∃ u, H5 b = some u ∧ notTup u = true := L5.inF
      have inF6 : ∀ b ∈ a.own ++ d6.foot, ∃ u, H6 b = some u ∧ notTup u = true := L6.inF
      have t7 : ∀ q us, H6 q = some (.tup us) → upd H7 p (.tup [mv, dv]) q = some (.tup us) := fun q us h => s8 _ _ (st7.tup inF6 q us h)
      refine q _ { a with da := d6 } _ ⟨rfl, rfl, rfl, (le3.trans le5).trans le6⟩ (L7.same s8) k08.all ⟨p, mv, dv, rfl, hp0, upd_same, ?_, ?_⟩
      · exact (t5.early k04.fr).keep (fun q us h => t7 q us (st6'.tup inF5 q us h))
      · exact (t6.early k05.fr).keep t7
def rowV (s : HS) : V := if s.S.row = s.prog.length then .non else .int s.S.row
structure ShownAt (H H' : Hp) (p c w' k g : Addr) (ps : List Addr) (s : HS) : Prop where
  tup : H' p = some (.tup [.int s.beats, rowV s, .ref c, .ref w', .ref k, .ref g])
  hc : H' c = some (.lst (s.S.cells.map V.int))
  hw : H' w' = some (.lst (s.ws.map V.int))
  hk : H' k = some (.lst (s.S.marks.map V.bl))
  hg : TupsAt H' g ps ((goFrom 0 s.ks).map goV)
  np : H p = none
  nc : H c = none
  nw : H w' = none
  nk : H k = none
  ng : H g = none
  nd : [c, w', k, g].Nodup
def sp_Floor_seen (K : PySem.W.Frag) : Sp := fun vs H Q _ => ∃ (a : FA) (s : HS) (g : GH), vs = [.ref a.h] ∧ FlAt K H a s g ∧ HOk s ∧ ∀ H' p c w' k g ps, ShownAt H H' p c w' k g ps s → Same H H' → Q (.ref p) H'
theorem ok_Floor_seen (T : T w K mg) : FnR P w K mg base CX0 4 (He.ma K (He.ga K "Floor") "seen") (sp_Floor_seen K) := by
  have F_Machine_ended : FnR P w K mg base CX0 1 _ _ := ok_Machine_ended T
  have F_Device_shown_on : FnR P w K mg base CX0 3 _ _ := ok_Device_shown_on T
  obtain ⟨fd, F⟩ := T.f_Floor_seen
  refine F.r sc_Floor_seen (fun _ _ _ _ _ _ us hl => match us, hl with | [_], _ => rfl) (fun vs H Q E h => ?_) (fun cdv A outer s0 H vs Q E hr h => ?_)
  · obtain ⟨_, _, _, rfl, _⟩ := h
    rfl
  · obtain ⟨a, s, g, rfl, L, O, q⟩ := h
    refine ⟨_, (pss_cons (ps_set (i := 1) sc_Floor_seen.nd rfl (Or.inl rfl) (pe_fld (pv 0) rfl))
      (pss_cons (ps_set (i := 2) sc_Floor_seen.nd rfl (Or.inl rfl) (pe_ifExp (pt_val (pe_mth0R (pv 1) T.cl_Machine T.m_Machine_ended F_Machine_ended (hr.mono (by decide)))) pe_non (pe_fld (pv 1) rfl)))
      (pss_one (ps_ret (pe_tup (pa_cons (pe_fld (pv 0) rfl) (pa_cons (pv 2) (pa_cons (pe_callTy call_list_of rfl T.u_list (by decide +kernel) (pa_cons (pe_fld (pv 1) rfl) pa_nil)) (pa_cons (pe_callTy call_list_of rfl T.u_list (by decide +kernel) (pa_cons (pe_fld (pv 0) rfl) pa_nil)) (pa_cons (pe_callTy call_list_of rfl T.u_list (by decide +kernel) (pa_cons (pe_fld (pv 1) rfl) pa_nil)) (pa_cons (pe_mth0R (pe_fld (pv 0) rfl) T.cl_Device T.m_Device_shown_on F_Device_shown_on (hr.mono (by decide))) pa_nil))))))))))), ?_⟩
    refine ⟨_, rfl, _, _, _, _, _, rfl, L.ob, T.cl_Floor, T.n_Floor_machine, fl_machine _, ?_⟩
    refine ⟨_, rfl, ?_⟩ -- machine
    refine ⟨_, _, _, rfl, L.mc.ob, mc_no_ended _, ?_⟩
    refine ⟨_, _, _, _, _, _, _, _, rfl, L.mc, ?_⟩ -- machine.ended()
    refine ⟨_, rfl, ?_⟩ -- test
    have fin : ∀ σ : L2.St, σ[0]? = some (some (.ref a.h)) → σ[1]? = some (some (.ref a.m)) → σ[2]? = some (some (rowV s)) →
        tTup (tCons (tFld K (tVar 0) "beats") (tCons (tVar 2) (tCons (tCB (fun xs H Q => ∃ p ys, xs = [.ref p] ∧ (SqL K H p ys ∨ SqT K H p ys) ∧ ∀ l, H l = none → Q (.ref l) (upd H l (.lst ys))) (tCons (tFld K (tVar 1) "cells") tNil)) (tCons (tCB (fun xs H Q => ∃ p ys, xs = [.ref p] ∧ (SqL K H p ys ∨ SqT K H p ys) ∧ ∀ l, H l = none → Q (.ref l) (upd H l (.lst ys))) (tCons (tFld K (tVar 0) "words") tNil))
          (tCons (tCB (fun xs H Q => ∃ p ys, xs = [.ref p] ∧ (SqL K H p ys ∨ SqT K H p ys) ∧ ∀ l, H l = none → Q (.ref l) (upd H l (.lst ys))) (tCons (tFld K (tVar 1) "marks") tNil)) (tCons (tMethR (He.ga K "Device") "shown_on" (sp_Device_shown_on K) E0 (tFld K (tVar 0) "device") tNil) tNil)))))) σ H Q := by
      intro σ h0 h1 h2
      refine ⟨_, h0, _, _, _, _, _, rfl, L.ob, T.cl_Floor, T.n_Floor_beats, fl_beats _, ?_⟩
      refine ⟨_, h2, ?_⟩ -- row
      refine ⟨_, h1, _, _, _, _, _, rfl, L.mc.ob, T.cl_Machine, T.n_Machine_cells, mc_cells _, ?_⟩
      refine ⟨_, _, rfl, .inl (SqL.of L.mc.hc), fun c hc => ?_⟩ -- list(machine.cells)
      have s1 : Same H (upd H c (.lst (s.S.cells.map V.int))) := Same.new (Same.refl H) hc
      have L1 := L.same s1
      have hc1 : upd H c (.lst (s.S.cells.map V.int)) c = some (.lst (s.S.cells.map V.int)) := upd_same
      generalize upd H c (.lst (s.S.cells.map V.int)) = H1 at s1 L1 hc1
      refine ⟨_, h0, _, _, _, _, _, rfl, L1.ob, T.cl_Floor, T.n_Floor_words, fl_words _, ?_⟩
      refine ⟨_, _, rfl, .inl (SqL.of L1.wd), fun w' hw => ?_⟩ -- list(self.words)
      have s2 : Same H1 (upd H1 w' (.lst (s.ws.map V.int))) := Same.new (Same.refl H1) hw
      have L2 := L1.same s2
      have hw2 : upd H1 w' (.lst (s.ws.map V.int)) w' = some (.lst (s.ws.map V.int)) := upd_same
      generalize upd H1 w' (.lst (s.ws.map V.int)) = H2 at s2 L2 hw2
      refine ⟨_, h1, _, _, _, _, _, rfl, L2.mc.ob, T.cl_Machine, T.n_Machine_marks, mc_marks _, ?_⟩
      refine ⟨_, _, rfl, .inl (SqL.of L2.mc.hk), fun k hk => ?_⟩ -- list(machine.marks)
      have s3 : Same H2 (upd H2 k (.lst (s.S.marks.map V.bl))) := Same.new (Same.refl H2) hk
      have L3 := L2.same s3
      have hk3 : upd H2 k (.lst (s.S.marks.map V.bl)) k = some (.lst (s.S.marks.map V.bl)) := upd_same
      generalize upd H2 k (.lst (s.S.marks.map V.bl)) = H3 at s3 L3 hk3
      refine ⟨_, h0, _, _, _, _, _, rfl, L3.ob, T.cl_Floor, T.n_Floor_device, fl_device _, ?_⟩
      refine ⟨_, _, _, rfl, L3.dv.ob, dv_no_shown_on _, ?_⟩
      refine ⟨a.da, _, _, _, rfl, L3.dv, O.l6, fun H4 g ps hg tg s4 => ?_⟩ -- self.device.goings()
      refine ⟨by show 6 ≤ sizeLine; decide, fun p hp => ?_⟩
      have s5 : Same H4 (upd H4 p (.tup [.int s.beats, rowV s, .ref c, .ref w', .ref k, .ref g])) := Same.new (Same.refl H4) hp
      have s02 := s1.trans s2
      have s03 := s02.trans s3
      have s04 := s03.trans s4
      refine q _ p c w' k g ps ⟨upd_same, ?_, ?_, ?_, tg.keep s5, Same.free s04 hp, hc, Same.free s1 hw, Same.free s02 hk, Same.free s03 hg, ?_⟩ (s04.trans s5)
      · exact s5 _ _ (s4 _ _ (s3 _ _ (s2 _ _ hc1)))
      · exact s5 _ _ (s4 _ _ (s3 _ _ hw2))
      · exact s5 _ _ (s4 _ _ hk3)
      · have cw : c ≠ w' := ne_of_none hc1 hw
        have ck : c ≠ k := ne_of_none (s2 _ _ hc1) hk
        have wk : w' ≠ k := ne_of_none hw2 hk
        have cg : c ≠ g := ne_of_none (s3 _ _ (s2 _ _ hc1)) hg
        have wg : w' ≠ g := ne_of_none (s3 _ _ hw2) hg
        have kg : k ≠ g := ne_of_none hk3 hg
        simp [cw, ck, wk, cg, wg, kg]
    unfold rowV at fin
    refine ite2 (fun c1 => ?_) (fun c1 => ?_)
    · have e : s.S.row = s.prog.length := of_decide_eq_true c1
      rw [if_pos e] at fin
      exact fin _ rfl rfl rfl
    · have e : ¬ s.S.row = s.prog.length := fun z => c1 (decide_eq_true z)
      rw [if_neg e] at fin
      refine ⟨_, rfl, _, _, _, _, _, rfl, L.mc.ob, T.cl_Machine, T.n_Machine_row, mc_row _, ?_⟩
      exact fin _ rfl rfl rfl
end
end SB

set_option Elab.async false
set_option linter.all false
set_option maxRecDepth 100000
set_option maxHeartbeats 2000000
namespace SB
open PySem L2
section
variable {P : Program} {w : World} {K : PySem.W.Frag} {mg : Str → Option Value} {base : Heap} {H H' : Hp} {a : FA} {s : HS} {g : GH}
def HS.at0 (prog : List Row) (asks : List (Int × Int)) (ks : List Wk) (ws : List Int) : HS := ⟨prog, asks, S0, ks.map Wk.fresh, false, ws, 0⟩
def sp_Floor_init (K : PySem.W.Frag) : Sp := fun vs H Q _ => ∃ (h dh pa wl ml al : Addr) (rs ts qs : List Addr) (prog : List Row) (ks : List Wk) (ws : List Int) (as : List (Int × Int)), vs = [.ref h, .ref pa, .ref wl, .ref ml, .ref al] ∧ H h = some (.ins (cFloor K) dh []) ∧
  ProgAt K H pa rs prog ∧ WorksAt K H wl ts ks ∧ ks.length ≤ 6 ∧ (∀ k ∈ ks, 0 < k.many ∧ k.many ≤ 16) ∧ SqL K H ml (ws.map V.int) ∧ AsksAt K H al qs as ∧
  ∀ H' (a : FA), a.h = h → FlAt K H' a (HS.at0 prog as ks ws) (GH.none ks.length) → (∀ b ∈ a.foot, b ≠ h → H b = none) → H a.al = none → Kept [h] H H' → Q .non H'
theorem ok_Floor_init (T : T w K mg) : FnR P w K mg base CX0 5 (He.ma K (He.ga K "Floor") "__init__") (sp_Floor_init K) := by
  have F_Machine_init : FnR P w K mg base CX0 1 _ _ := ok_Machine_init T
  have F_Device_init : FnR P w K mg base CX0 3 _ _ := ok_Device_init T
  obtain ⟨fd, F⟩ := T.f_Floor_init
  refine F.r sc_Floor_init (fun _ _ _ _ _ _ us hl => match us, hl with | [_, _, _, _, _], _ => rfl) (fun vs H Q E h => ?_) (fun cdv A outer s0 H vs Q E hr h => ?_)
  · obtain ⟨_, _, _, _, _, _, _, _, _, _, _, _, _, rfl, _⟩ := h
    rfl
  · obtain ⟨h, dh, pa, wl, ml, al, rs, ts, qs, prog, ks, ws, as, rfl, hself, Pr, W, w6, wok, Ml, As, q⟩ := h
    refine ⟨_, (pss_cons (ps_fld (pv 0) (pe_mkR T.mk_Machine F_Machine_init (hr.mono (by decide)) rfl T.g_Machine (pa_cons (pv 1) pa_nil)) rfl)
      (pss_cons (ps_fld (pv 0) (pe_mkR T.mk_Device F_Device_init (hr.mono (by decide)) rfl T.g_Device (pa_cons (pv 2) pa_nil)) rfl)
      (pss_cons (ps_fld (pv 0) (pe_callTy call_list_of rfl T.u_list (by decide +kernel) (pa_cons (pv 3) pa_nil)) rfl)
      (pss_cons (ps_fld (pv 0) (pe_callTy call_list_of rfl T.u_list (by decide +kernel) (pa_cons (pv 4) pa_nil)) rfl)
      (pss_one (ps_fld (pv 0) pe_int rfl)))))), ?_⟩
    have s3 : Same H H := Same.refl H
    refine ⟨_, rfl, ?_⟩ -- program
    intro m dm nm ndm nem
    have s4 : Same H (upd (upd H dm (.own m)) m (.ins (cMachine K) dm [])) := fun b o e => by
      rw [upd_ne (ne_of_none e nm), upd_ne (ne_of_none e ndm)]
      exact e
    refine ⟨m, dm, pa, rs, prog, rfl, upd_same, (Pr.same s3).same s4, fun H5 c k M5 nc nk k5 => ⟨rfl, ?_⟩⟩ -- Machine(program)
    have s5' : Same H H5 := fun b o e => k5 b o (s4 b o e) (by simpa using ne_of_none e nm)
    have s5 := s3.trans s5'
    have nm0 : H m = none := Same.free s3 nm
    have nc3 : H c = none := Same.free s4 nc
    have nk3 : H k = none := Same.free s4 nk
    have nc0 : H c = none := Same.free s3 nc3
    have nk0 : H k = none := Same.free s3 nk3
    refine stf (s5 _ _ hself) T.cl_Floor T.n_Floor_machine (by decide) rfl ?_ -- self.machine = Machine(program)
    have hm : m ≠ h := ne_of_none' hself nm0
    have hc : c ≠ h := ne_of_none' hself nc0
    have hk : k ≠ h := ne_of_none' hself nk0
    have k6 : Kept [h] H5 (upd H5 h (.ins (cFloor K) dh (putF "machine" (V.ref m) []))) := (Kept.refl _ _).put (by simp)
    have inh : ∀ b ∈ [h], ∃ u, H5 b = some u ∧ notTup u = true := fun b hb => by
      have e : b = h := by simpa using hb
      rw [e]
      exact ⟨_, s5 _ _ hself, rfl⟩
    have M6 : McAt K (upd H5 h (.ins (cFloor K) dh (putF "machine" (V.ref m) []))) m dm pa rs prog c k S0 := ⟨k6 _ _ M5.ob (by simpa using hm), M5.pr.keep k6 inh, k6 _ _ M5.hc (by simpa using hc), k6 _ _ M5.hk (by simpa using hk), M5.ck⟩
    have hh6 : upd H5 h (.ins (cFloor K) dh (putF "machine" (V.ref m) [])) h = some (.ins (cFloor K) dh (putF "machine" (V.ref m) [])) := upd_same
    have kk6 : Kept [h] H (upd H5 h (.ins (cFloor K) dh (putF "machine" (V.ref m) []))) := (Kept.same s5).trans k6
    generalize upd H5 h (.ins (cFloor K) dh (putF "machine" (V.ref m) [])) = H6 at M6 hh6 kk6
    have in0 : ∀ b ∈ [h], ∃ u, H b = some u ∧ notTup u = true := fun b hb => by
      have e : b = h := by simpa using hb
      rw [e]
      exact ⟨_, hself, rfl⟩
    have free0 : ∀ {H9 : Hp} {o : HO} {y : Addr}, Kept [h] H H9 → H9 h = some o → H9 y = none → H y = none := fun {H9 o y} k9 e9 hy => by
      have yh : y ≠ h := fun z => by rw [z, e9] at hy; cases hy
      exact k9.free hy (by simpa using yh)
    have lst_keep : ∀ {H9 : Hp} {b : Addr} {xs : List V}, Kept [h] H H9 → SqL K H b xs → SqL K H9 b xs := fun {H9 b xs} k9 hb => by
      rcases hb with (hb | ⟨o, hb⟩) | hb
      · exact .inl (.inl (k9 _ _ hb (by simpa using lst_ne_ins hb hself)))
      · exact .inl (.inr ⟨o, k9 _ _ hb (by
          have : b ≠ h := ne_of hb hself (by intro z; cases z)
          simpa using this)⟩)
      · exact .inr hb
    have W6 : WorksAt K H6 wl ts ks := ⟨lst_keep kk6 W.lst, W.len, fun j t x h1 h2 => tup_keep (W.at_ j t x h1 h2) kk6 in0⟩
    refine ⟨_, rfl, ?_⟩ -- works
    intro d dd nd ndd ned
    have s7 : Same H6 (upd (upd H6 dd (.own d)) d (.ins (cDevice K) dd [])) := fun b o e => by
      rw [upd_ne (ne_of_none e nd), upd_ne (ne_of_none e ndd)]
      exact e
    refine ⟨d, dd, wl, ts, ks, rfl, upd_same, W6.same s7, by rw [W.len]; exact w6, wok, fun H8 da had D8 nfd k8 f8 => ⟨rfl, ?_⟩⟩ -- Device(works)
    subst had
    have s8 : Same H6 H8 := fun b o e => k8 b o (s7 b o e) (by simpa using ne_of_none e nd)
    have nd0 : H da.d = none := free0 kk6 hh6 nd
    have nf6 : ∀ x ∈ da.foot, H6 x = none := fun x hx => by
      by_cases e : x = da.d
      · rw [e]; exact nd
      · exact Same.free s7 (nfd x hx e)
    have nf0 : ∀ x ∈ da.foot, H x = none := fun x hx => free0 kk6 hh6 (nf6 x hx)
    have hh8 := s8 _ _ hh6
    have M8 := M6.same s8
    have nfo : ∀ {x : Addr} {o : HO}, H6 x = some o → x ∉ da.foot := fun {x o} e z => by rw [nf6 x z] at e; cases e
    have hf : h ∉ da.foot := nfo hh6
    have kk8 : Kept [h] H H8 := kk6.trans (Kept.same s8)
    refine stf hh8 T.cl_Floor T.n_Floor_device (lt1000 (by kernel_rfl)) rfl ?_ -- self.device = Device(works)
    generalize e9 : upd H8 h _ = H9
    have k9 : Kept [h] H8 H9 := by rw [← e9]; exact (Kept.refl _ _).put (by simp)
    have in8 : ∀ b ∈ [h], ∃ u, H8 b = some u ∧ notTup u = true := fun b hb => by
      have e : b = h := by simpa using hb
      rw [e]
      exact ⟨_, hh8, rfl⟩
    have mne : ∀ b ∈ [m, c, k], b ∉ [h] := fun b hb z => by
      have e : b = h := by simpa using z
      simp only [List.mem_cons] at hb
      rcases hb with rfl | rfl | rfl | hb
      · exact hm e
      · exact hc e
      · exact hk e
      · cases hb
    have dne : ∀ b ∈ da.foot, b ∉ [h] := fun b hb z => by
      have e : b = h := by simpa using z
      exact hf (by rw [← e]; exact hb)
    have M9 : McAt K H9 m dm pa rs prog c k S0 := M8.stay k9 mne in8
    have D9 : DevAt K H9 da (ks.map Wk.fresh) false (GH.none ks.length) := D8.stay k9 dne in8
    have hh9 : H9 h = some (.ins (cFloor K) dh (putF "device" (V.ref da.d) (putF "machine" (V.ref m) []))) := by rw [← e9]; exact upd_same
    have kk9 := kk8.trans k9
    refine ⟨_, rfl, ?_⟩ -- memory
    refine ⟨_, _, rfl, .inl (lst_keep kk9 Ml), fun lw hlw => ?_⟩ -- list(memory)
    have slw : Same H9 (upd H9 lw (.lst (ws.map V.int))) := Same.new (Same.refl _) hlw
    have nlw0 : H lw = none := free0 kk9 hh9 hlw
    have lwh : lw ≠ h := ne_of_none' hself nlw0
    refine stf (slw _ _ hh9) T.cl_Floor T.n_Floor_words (lt1000 (by kernel_rfl)) rfl ?_ -- self.words = list(memory)
    generalize e10 : upd (upd H9 lw (.lst (ws.map V.int))) h _ = H10
    have M9' := M9.same slw
    have D9' := D9.same slw
    have k10 : Kept [h] (upd H9 lw (.lst (ws.map V.int))) H10 := by rw [← e10]; exact (Kept.refl _ _).put (by simp)
    have in9 : ∀ b ∈ [h], ∃ u, upd H9 lw (.lst (ws.map V.int)) b = some u ∧ notTup u = true := fun b hb => by
      have e : b = h := by simpa using hb
      rw [e]
      exact ⟨_, slw _ _ hh9, rfl⟩
    have M10 : McAt K H10 m dm pa rs prog c k S0 := M9'.stay k10 mne in9
    have D10 : DevAt K H10 da (ks.map Wk.fresh) false (GH.none ks.length) := D9'.stay k10 dne in9
    have hh10 : H10 h = some (.ins (cFloor K) dh (putF "words" (V.ref lw) (putF "device" (V.ref da.d) (putF "machine" (V.ref m) [])))) := by rw [← e10]; exact upd_same
    have hlw10 : H10 lw = some (.lst (ws.map V.int)) := by rw [← e10, upd_ne lwh]; exact upd_same
    have kk10 : Kept [h] H H10 := (kk9.trans (Kept.same slw)).trans k10
    refine ⟨_, rfl, ?_⟩ -- asks
    refine ⟨_, _, rfl, .inl (lst_keep kk10 As.lst), fun al' hal => ?_⟩ -- list(asks)
    have sal : Same H10 (upd H10 al' (.lst (qs.map V.ref))) := Same.new (Same.refl _) hal
    have nal0 : H al' = none := free0 kk10 hh10 hal
    have alh : al' ≠ h := ne_of_none' hself nal0
    refine stf (sal _ _ hh10) T.cl_Floor T.n_Floor_asks (lt1000 (by kernel_rfl)) rfl ?_ -- self.asks = list(asks)
    refine stf upd_same T.cl_Floor T.n_Floor_beats (lt1000 (by kernel_rfl)) (fl_made m da.d lw al' 0) ?_ -- self.beats = 0
    rw [upd_upd]
    generalize e11 : upd (upd H10 al' (.lst (qs.map V.ref))) h _ = H11
    have M10' := M10.same sal
    have D10' := D10.same sal
    have k11 : Kept [h] (upd H10 al' (.lst (qs.map V.ref))) H11 := by rw [← e11]; exact (Kept.refl _ _).put (by simp)
    have in10 : ∀ b ∈ [h], ∃ u, upd H10 al' (.lst (qs.map V.ref)) b = some u ∧ notTup u = true := fun b hb => by
      have e : b = h := by simpa using hb
      rw [e]
      exact ⟨_, sal _ _ hh10, rfl⟩
    have M11 : McAt K H11 m dm pa rs prog c k S0 := M10'.stay k11 mne in10
    have D11 : DevAt K H11 da (ks.map Wk.fresh) false (GH.none ks.length) := D10'.stay k11 dne in10
    have hh11 : H11 h = some (.ins (cFloor K) dh (flF ⟨m, da.d, lw, al', 0⟩)) := by rw [← e11]; exact upd_same
    have hlw11 : H11 lw = some (.lst (ws.map V.int)) := k11 _ _ (sal _ _ hlw10) (by simpa using lwh)
    have hal11 : H11 al' = some (.lst (qs.map V.ref)) := k11 _ _ upd_same (by simpa using alh)
    have kk11 : Kept [h] H H11 := (kk10.trans (Kept.same sal)).trans k11
    have lwf : lw ∉ da.foot := fun z => by
      obtain ⟨u, hu, _⟩ := D9.inF lw z
      rw [hlw] at hu
      cases hu
    have alf : al' ∉ da.foot := fun z => by
      obtain ⟨u, hu, _⟩ := D10.inF al' z
      rw [hal] at hu
      cases hu
    refine q H11 ⟨h, dh, m, dm, pa, c, k, lw, al', rs, qs, da⟩ rfl ⟨hh11, M11, D11, hlw11, hal11, As.len, fun j t x h1 h2 => tup_keep (As.at_ j t x h1 h2) kk11 in0, fun z => ?_, fun b hb => ?_, Ne.symm hm, ?_, ?_⟩ ?_ nal0 kk11
    · rcases List.mem_append.mp z with z | z
      · have z' : al' ∈ [h, m, c, k, lw] := z
        simp only [List.mem_cons] at z'
        rcases z' with z | z | z | z | z | z
        · exact alh z
        · exact (ne_of_none M10.ob hal) z.symm
        · exact (ne_of_none M10.hc hal) z.symm
        · exact (ne_of_none M10.hk hal) z.symm
        · exact (ne_of_none hlw10 hal) z.symm
        · cases z
      · exact alf z
    · have hb' : b ∈ [h, m, c, k, lw] := hb
      simp only [List.mem_cons] at hb'
      rcases hb' with rfl | rfl | rfl | rfl | rfl | z
      · exact hf
      · exact nfo M6.ob
      · exact nfo M6.hc
      · exact nfo M6.hk
      · exact lwf
      · cases z
    · exact Ne.symm (ne_of_none M9.hc hlw)
    · exact Ne.symm (ne_of_none M9.hk hlw)
    · intro b hb hbh
      rcases List.mem_append.mp hb with hb | hb
      · have hb' : b ∈ [h, m, c, k, lw] := hb
        simp only [List.mem_cons] at hb'
        rcases hb' with rfl | rfl | rfl | rfl | rfl | z
        · exact absurd rfl hbh
        · exact nm0
        · exact nc0
        · exact nk0
        · exact nlw0
        · cases z
      · exact nf0 b hb
def sp_check_hall (K : PySem.W.Frag) : Sp := fun vs H Q _ => ∃ (pa wl ml al : Addr) (rs ts qs : List Addr) (prog : List Row) (ks : List Wk) (ws : List Int) (as : List (Int × Int)), vs = [.ref pa, .ref wl, .ref ml, .ref al] ∧
  ProgAt K H pa rs prog ∧ 0 < prog.length ∧ prog.length ≤ 40 ∧ (∀ r ∈ prog, r.ok prog.length) ∧ WorksAt K H wl ts ks ∧ ks.length ≤ 6 ∧ (∀ k ∈ ks, WOk ks.length k) ∧ SqL K H ml (ws.map V.int) ∧ 4 ≤ ws.length ∧ ws.length ≤ 32 ∧ (∀ x ∈ ws, rg 0 999 x) ∧ AsksAt K H al qs as ∧ AOk ks.length as ∧ ∀ H', Same H H' → Q .non H'
theorem ok_check_hall (T : T w K mg) : FnR P w K mg base CX0 5 (He.ga K "check_hall") (sp_check_hall K) := by
  have F_check_program : FnR P w K mg base CX0 4 _ _ := ok_check_program T
  have F_check_works : FnR P w K mg base CX0 4 _ _ := ok_check_works T
  have F_check_memory : FnR P w K mg base CX0 3 _ _ := ok_check_memory T
  have F_check_asks : FnR P w K mg base CX0 4 _ _ := ok_check_asks T
  obtain ⟨fd, F⟩ := T.f_check_hall
  refine F.r sc_check_hall (fun _ _ _ _ _ _ us hl => match us, hl with | [_, _, _, _], _ => rfl) (fun vs H Q E h => ?_) (fun cdv A outer s0 H vs Q E hr h => ?_)
  · obtain ⟨_, _, _, _, _, _, _, _, _, _, _, rfl, _⟩ := h
    rfl
  · obtain ⟨pa, wl, ml, al, rs, ts, qs, prog, ks, ws, as, rfl, Pr, p0, p40, pok, W, w6, wok, Ml, m4, m32, mok, As, aok, q⟩ := h
    refine ⟨_, (pss_cons (ps_expr (pe_callR F_check_program (hr.mono (by decide)) rfl T.g_check_program T.k_check_program (pa_cons (pv 0) pa_nil)))
      (pss_cons (ps_expr (pe_callR F_check_works (hr.mono (by decide)) rfl T.g_check_works T.k_check_works (pa_cons (pv 1) pa_nil)))
      (pss_cons (ps_expr (pe_callR F_check_memory (hr.mono (by decide)) rfl T.g_check_memory T.k_check_memory (pa_cons (pv 2) pa_nil)))
      (pss_one (ps_expr (pe_callR F_check_asks (hr.mono (by decide)) rfl T.g_check_asks T.k_check_asks (pa_cons (pv 3) (pa_cons (pv 1) pa_nil)))))))), ?_⟩
    refine ⟨_, rfl, pa, rs, prog, rfl, Pr, p0, p40, pok, fun H1 s1 => ?_⟩ -- check_program(program)
    refine ⟨_, rfl, wl, ts, ks, rfl, W.same s1, w6, wok, fun H2 s2' => ?_⟩ -- check_works(works)
    have s2 := s1.trans s2'
    refine ⟨_, rfl, ml, ws, rfl, s2.seq Ml, m4, m32, mok, ?_⟩ -- check_memory(memory)
    refine ⟨_, rfl, _, rfl, al, wl, qs, ts, as, ks, rfl, As.same s2, W.same s2, aok, fun H3 s3' => ?_⟩ -- check_asks(asks, works)
    exact q _ (s2.trans s3')
structure HA where
  (h dh : Addr)
  f : FA
def HA.al (a : HA) : Addr := a.f.al
def HA.foot (a : HA) : List Addr := [a.h] ++ a.f.foot
structure HallAt (K : PySem.W.Frag) (H : Hp) (a : HA) (s : HS) (g : GH) : Prop where
  ob : H a.h = some (.ins (cHall K) a.dh (hlF ⟨a.f.h⟩))
  fl : FlAt K H a.f s g
  nh : a.h ∉ a.f.foot
section
variable {a a' : HA}
theorem HallAt.als (L : HallAt K H a s g) : H a.al = some (.lst (a.f.qs.map V.ref)) := L.fl.als
theorem HallAt.inF (L : HallAt K H a s g) : ∀ b ∈ a.foot, ∃ u, H b = some u ∧ notTup u = true := fun b hb => by
  rcases List.mem_append.mp hb with hb | hb
  · have e : b = a.h := by simpa using hb
    rw [e]
    exact ⟨_, L.ob, rfl⟩
  · exact L.fl.inF b hb
theorem HallAt.nal (L : HallAt K H a s g) : a.al ∉ a.foot := fun z => by
  rcases List.mem_append.mp z with z | z
  · have e : a.al = a.h := by simpa using z
    exact (lst_ne_ins L.als L.ob) e
  · exact L.fl.nal z
theorem HallAt.same (L : HallAt K H a s g) (e : Same H H') : HallAt K H' a s g := ⟨e _ _ L.ob, L.fl.same e, L.nh⟩
theorem HallAt.stay (L : HallAt K H a s g) {as : List Addr} (k : Kept as H H') (h : ∀ b ∈ a.foot, b ∉ as) (h2 : a.al ∉ as) (hn : ∀ b ∈ as, ∃ u, H b = some u ∧ notTup u = true) : HallAt K H' a s g :=
  ⟨k _ _ L.ob (h _ (List.mem_append.mpr (.inl (List.mem_singleton.mpr rfl)))), L.fl.stay k (fun b hb => h b (List.mem_append.mpr (.inr hb))) h2 hn, L.nh⟩
structure HLe (a a' : HA) : Prop where
  h : a'.h = a.h
  al : a'.al = a.al
  f : FLe a.f a'.f
theorem HLe.refl (a : HA) : HLe a a := ⟨rfl, rfl, FLe.refl _⟩
theorem HLe.trans {a b c : HA} (x : HLe a b) (y : HLe b c) : HLe a c := ⟨y.h.trans x.h, y.al.trans x.al, x.f.trans y.f⟩
def sp_Hall_beat (K : PySem.W.Frag) : Sp := fun vs H Q _ => ∃ (a : HA) (s : HS) (g : GH), vs = [.ref a.h] ∧ HallAt K H a s g ∧ HOk s ∧ ∀ H' a' v, HLe a a' → HallAt K H' a' s.next (s.gnext g) → Step a.foot H a'.foot H' → ToldB H H' v s.dm.2.2.2 s.ms.2.2.2 → Q v H'
theorem ok_Hall_beat (T : T w K mg) : FnR P w K mg base CX0 7 (He.ma K (He.ga K "Hall") "beat") (sp_Hall_beat K) := by
  have F_Floor_pass_beat : FnR P w K mg base CX0 6 _ _ := ok_Floor_pass_beat T
  obtain ⟨fd, F⟩ := T.f_Hall_beat
  refine F.r sc_Hall_beat (fun _ _ _ _ _ _ us hl => match us, hl with | [_], _ => rfl) (fun vs H Q E h => ?_) (fun cdv A outer s0 H vs Q E hr h => ?_)
  · obtain ⟨_, _, _, rfl, _⟩ := h
    rfl
  · obtain ⟨a, s, g, rfl, L, O, q⟩ := h
    refine ⟨_, (pss_one (ps_ret (pe_mth0R (pe_fld (pv 0) rfl) T.cl_Floor T.m_Floor_pass_beat F_Floor_pass_beat (hr.mono (by decide))))), ?_⟩
    refine ⟨_, rfl, _, _, _, _, _, rfl, L.ob, T.cl_Hall, T.n_Hall_floor, hl_floor _, ?_⟩
    refine ⟨_, _, _, rfl, L.fl.ob, fl_no_pass_beat _, ?_⟩
    refine ⟨a.f, s, g, rfl, L.fl, O, fun H' f' v le L' st t => ?_⟩
    have hh : H' a.h = some (.ins (cHall K) a.dh (hlF ⟨a.f.h⟩)) := st.kp _ _ L.ob L.nh
    refine q H' ⟨a.h, a.dh, f'⟩ v ⟨rfl, le.al, le⟩ ⟨?_, L', st.apart L.ob L.nh⟩ ((st.more [a.h]).all) t
    rw [← le.h] at hh
    exact hh
def sp_Hall_shown (K : PySem.W.Frag) : Sp := fun vs H Q _ => ∃ (a : HA) (s : HS) (g : GH), vs = [.ref a.h] ∧ HallAt K H a s g ∧ HOk s ∧ ∀ H' p c w' k g ps, ShownAt H H' p c w' k g ps s → Same H H' → Q (.ref p) H'
theorem ok_Hall_shown (T : T w K mg) : FnR P w K mg base CX0 5 (He.ma K (He.ga K "Hall") "shown") (sp_Hall_shown K) := by
  have F_Floor_seen : FnR P w K mg base CX0 4 _ _ := ok_Floor_seen T
  obtain ⟨fd, F⟩ := T.f_Hall_shown
  refine F.r sc_Hall_shown (fun _ _ _ _ _ _ us hl => match us, hl with | [_], _ => rfl) (fun vs H Q E h => ?_) (fun cdv A outer s0 H vs Q E hr h => ?_)
  · obtain ⟨_, _, _, rfl, _⟩ := h
    rfl
  · obtain ⟨a, s, g, rfl, L, O, q⟩ := h
    refine ⟨_, (pss_one (ps_ret (pe_mth0R (pe_fld (pv 0) rfl) T.cl_Floor T.m_Floor_seen F_Floor_seen (hr.mono (by decide))))), ?_⟩
    refine ⟨_, rfl, _, _, _, _, _, rfl, L.ob, T.cl_Hall, T.n_Hall_floor, hl_floor _, ?_⟩
    refine ⟨_, _, _, rfl, L.fl.ob, fl_no_seen _, ?_⟩
    exact ⟨a.f, s, g, rfl, L.fl, O, q⟩
def sp_Hall_init (K : PySem.W.Frag) : Sp := fun vs H Q _ => ∃ (h dh pa wl ml al : Addr) (rs ts qs : List Addr) (prog : List Row) (ks : List Wk) (ws : List Int) (as : List (Int × Int)), vs = [.ref h, .ref pa, .ref wl, .ref ml, .ref al] ∧ H h = some (.ins (cHall K) dh []) ∧
  ProgAt K H pa rs prog ∧ 0 < prog.length ∧ prog.length ≤ 40 ∧ (∀ r ∈ prog, r.ok prog.length) ∧ WorksAt K H wl ts ks ∧ ks.length ≤ 6 ∧ (∀ k ∈ ks, WOk ks.length k) ∧ SqL K H ml (ws.map V.int) ∧ 4 ≤ ws.length ∧ ws.length ≤ 32 ∧ (∀ x ∈ ws, rg 0 999 x) ∧ AsksAt K H al qs as ∧ AOk ks.length as ∧
  ∀ H' (a : HA), a.h = h → HallAt K H' a (HS.at0 prog as ks ws) (GH.none ks.length) → (∀ b ∈ a.foot, b ≠ h → H b = none) → H a.al = none → Kept [h] H H' → Q .non H'
theorem ok_Hall_init (T : T w K mg) : FnR P w K mg base CX0 7 (He.ma K (He.ga K "Hall") "__init__") (sp_Hall_init K) := by
  have F_check_hall : FnR P w K mg base CX0 5 _ _ := ok_check_hall T
  have F_Floor_init : FnR P w K mg base CX0 5 _ _ := ok_Floor_init T
  obtain ⟨fd, F⟩ := T.f_Hall_init
  refine F.r sc_Hall_init (fun _ _ _ _ _ _ us hl => match us, hl with | [_, _, _, _, _], _ => rfl) (fun vs H Q E h => ?_) (fun cdv A outer s0 H vs Q E hr h => ?_)
  · obtain ⟨_, _, _, _, _, _, _, _, _, _, _, _, _, rfl, _⟩ := h
    rfl
  · obtain ⟨h, dh, pa, wl, ml, al, rs, ts, qs, prog, ks, ws, as, rfl, hself, Pr, p0, p40, pok, W, w6, wok, Ml, m4, m32, mok, As, aok, q⟩ := h
    refine ⟨_, (pss_cons (ps_expr (pe_callR F_check_hall (hr.mono (by decide)) rfl T.g_check_hall T.k_check_hall (pa_cons (pv 1) (pa_cons (pv 2) (pa_cons (pv 3) (pa_cons (pv 4) pa_nil))))))
      (pss_one (ps_fld (pv 0) (pe_mkR T.mk_Floor F_Floor_init (hr.mono (by decide)) rfl T.g_Floor (pa_cons (pv 1) (pa_cons (pv 2) (pa_cons (pv 3) (pa_cons (pv 4) pa_nil))))) rfl))), ?_⟩
    refine ⟨_, rfl, _, rfl, _, rfl, _, rfl, pa, wl, ml, al, rs, ts, qs, prog, ks, ws, as, rfl, Pr, p0, p40, pok, W, w6, wok, Ml, m4, m32, mok, As, aok, fun H1 s1 => ?_⟩ -- check_hall(..)
    refine ⟨_, rfl, _, rfl, _, rfl, _, rfl, ?_⟩
    intro f df nf ndf nef
    have s2 : Same H1 (upd (upd H1 df (.own f)) f (.ins (cFloor K) df [])) := fun b o e => by
      rw [upd_ne (ne_of_none e nf), upd_ne (ne_of_none e ndf)]
      exact e
    have s12 := s1.trans s2
    refine ⟨f, df, pa, wl, ml, al, rs, ts, qs, prog, ks, ws, as, rfl, upd_same, Pr.same s12, W.same s12, w6, fun k hk => ?_, s12.seq Ml, As.same s12, fun H3 B hB L3 nB nal k3 => ⟨rfl, ?_⟩⟩ -- Floor(..)
    · have := (wok k hk).m
      obtain ⟨m1, m2⟩ := this
      omega
    subst hB
    have s3' : Same H1 H3 := fun b o e => k3 b o (s2 b o e) (by simpa using ne_of_none e nf)
    have s3 := s1.trans s3'
    have nB0 : ∀ b ∈ B.foot, H b = none := fun b hb => by
      by_cases e : b = B.h
      · rw [e]; exact Same.free s1 nf
      · exact Same.free s12 (nB b hb e)
    have nh : h ∉ B.foot := fun z => by
      rw [nB0 h z] at hself
      cases hself
    refine stf (s3 _ _ hself) T.cl_Hall T.n_Hall_floor (by decide) (hl_made B.h) ?_ -- self.floor = Floor(..)
    generalize e4 : upd H3 h _ = H4
    have k4 : Kept [h] H3 H4 := by rw [← e4]; exact (Kept.refl _ _).put (by simp)
    have in3 : ∀ b ∈ [h], ∃ u, H3 b = some u ∧ notTup u = true := fun b hb => by
      have e : b = h := by simpa using hb
      rw [e]
      exact ⟨_, s3 _ _ hself, rfl⟩
    have alh : B.al ≠ h := fun z => by
      have e1 := L3.als
      rw [z, s3 _ _ hself] at e1
      cases e1
    refine q H4 ⟨h, dh, B⟩ rfl ⟨by rw [← e4]; exact upd_same, L3.stay k4 (fun b hb z => nh (by
      have e : b = h := by simpa using z
      rw [← e]
      exact hb)) (by simpa using alh) in3, nh⟩ (fun b hb hbh => ?_) (Same.free s12 nal) ((Kept.same s3).trans k4)
    rcases List.mem_append.mp hb with hb | hb
    · exact absurd (by simpa using hb) hbh
    · exact nB0 b hb
end
end
end SB

set_option Elab.async false
set_option linter.all false
set_option maxRecDepth 100000
set_option maxHeartbeats 2000000
namespace SB
open PySem L2
structure DiceAt (H : Hp) (d sl : Addr) (f p : Int) (cs : List Int) : Prop where
  ob : H d = some (.lst [.int f, .ref sl, .int p])
  ls : H sl = some (.lst (cs.map V.int))
  f0 : 0 ≤ f
  f1 : f < 2147483647
  p0 : 0 ≤ p
  ne : d ≠ sl
def pyInts (ns : List Int) : List PyData := ns.map PyData.int
theorem dp_ints {K : PySem.W.Frag} {H : Hp} : ∀ ns : List Int, DpAll K H (ns.map V.int) (pyInts ns)
  | [] => .nil
  | n :: r => .cons (.int n) (dp_ints r)
theorem canLay_ints : ∀ ns : List Int, PyData.canLayAll0 (pyInts ns) = true
  | [] => rfl
  | n :: r => by
    show (true && PyData.canLayAll0 (pyInts r)) = true
    rw [canLay_ints r]
    rfl
theorem depth_ints : ∀ ns : List Int, PyData.depthAll (pyInts ns) = 0
  | [] => rfl
  | n :: r => by
    show max 0 (PyData.depthAll (pyInts r)) = 0
    rw [depth_ints r]
    rfl
theorem shaped_ints (ns : List Int) : SeqAt.shaped (.list (pyInts ns)) = true := by
  show (PyData.canLayAll0 (pyInts ns) && decide (PyData.depthAll (pyInts ns) + 1 ≤ 64)) = true
  rw [canLay_ints, depth_ints]
  rfl
theorem eqv_nil (ns : List Int) : PyData.eqv (.list (pyInts ns)) (.list (pyInts [])) = ns.isEmpty := by
  cases ns <;> rfl
section
variable {P : Program} {w : World} {K : PySem.W.Frag} {mg : Str → Option Value} {base : Heap}
def sp_l_dice (K : PySem.W.Frag) : Sp := fun vs H Q _ => ∃ (a : Addr) (ns : List Int) (k : Int), vs = [.ref a, .int k] ∧ SqL K H a (ns.map V.int) ∧ 0 ≤ k ∧ k < 2147483647 ∧ ns.length ≤ 63 ∧
  ∀ H' d sl f, DiceAt H' d sl f 0 ns → H d = none → H sl = none → Same H H' → Q (.ref d) H'
theorem ok_l_dice (T : T w K mg) : FnR P w K mg base CX0 1 (He.ga K "_law_dice") (sp_l_dice K) := by
  obtain ⟨fd, F⟩ := T.f_l_dice
  refine F.r sc_l_dice (fun _ _ _ _ _ _ us hl => match us, hl with | [_, _], _ => rfl) (fun vs H Q E h => ?_) (fun cdv A outer s H vs Q E hr h => ?_)
  · obtain ⟨_, _, _, rfl, _⟩ := h
    rfl
  · obtain ⟨a, ns, k, rfl, hS, k0, k1, hlen, q⟩ := h
    refine ⟨_, (pss_cons (ps_set (i := 2) sc_l_dice.nd rfl (Or.inl rfl) (pv 1))
      (pss_cons (ps_for PassesOwn.never rfl (pi_list (pv 0)) (pg_name (i := 3) sc_l_dice.nd rfl (Or.inl rfl))
      (pss_one (ps_set (i := 2) sc_l_dice.nd rfl (Or.inl rfl) (pe_op op_mod (pe_op op_add (pe_op op_mul (pv 2) pe_int) (pe_callB call_abs rfl T.u_abs (by decide +kernel) (pa_cons (pv 3) pa_nil))) pe_int))))
      (pss_one (ps_ret (pe_lst (pa_cons (pv 2) (pa_cons (pe_callTy call_list_of rfl T.u_list (by decide +kernel) (pa_cons (pv 0) pa_nil)) (pa_cons pe_int pa_nil)))))))), ?_⟩
    refine ⟨_, rfl, ?_⟩ -- _law_k
    refine ⟨_, rfl, a, rfl, ⟨_, hS⟩, for_list (K := K) (a := a) (xs := ns.map V.int) (fun i σ H2 => ∃ (f : Int) (v : Option V), σ = [some (.ref a), some (.int k), some (.int f), v] ∧ H2 = H ∧ 0 ≤ f ∧ f < 2147483647) ⟨k, none, rfl, rfl, k0, k1⟩ (fun i σ H2 _ ⟨_, _, _, e, _⟩ => by rw [e]; exact hS) ?_ ?_⟩
    · rintro i x σ H2 hx ⟨f, v, rfl, rfl, f0, f1⟩
      rw [List.getElem?_map] at hx
      cases hy : ns[i]? with
      | none => rw [hy] at hx; cases hx
      | some y =>
        rw [hy] at hx
        cases hx
        refine ⟨_, rfl, _, _, rfl, rfl, .inr ⟨by decide, by decide⟩, ?_⟩
        refine ⟨_, rfl, _, rfl, _, _, rfl, rfl, _, _, rfl, rfl, (by show (0 : Int) < 2147483647; decide), ?_⟩
        exact ⟨_, _, rfl, rfl, Int.emod_nonneg _ (by decide), Int.emod_lt_of_pos _ (by decide)⟩
    · rintro σ H2 ⟨f, v, rfl, rfl, f0, f1⟩
      refine ⟨_, rfl, _, rfl, _, _, rfl, .inl hS, fun sl hsl => ?_⟩
      refine ⟨by show 3 ≤ sizeLine; decide, fun d hd => ?_⟩
      have dsl : d ≠ sl := fun z => by rw [z, upd_same] at hd; cases hd
      rw [upd_ne dsl] at hd
      exact q _ d sl f ⟨upd_same, by rw [upd_ne (Ne.symm dsl)]; exact upd_same, f0, f1, Int.le_refl 0, dsl⟩ hd hsl (Same.new (Same.new (Same.refl _) hsl) hd)
def sp_l_off (K : PySem.W.Frag) : Sp := fun vs H Q _ => ∃ (d sl : Addr) (f p : Int) (cs : List Int) (most : Int), vs = [.ref d, .int most] ∧ DiceAt H d sl f p cs ∧ cs.length ≤ 63 ∧ 0 < most ∧ most < 1073741824 ∧
  ∀ H' f' p' cs' v, DiceAt H' d sl f' p' cs' → cs'.length = cs.length → Kept [d, sl] H H' → 0 ≤ v → v < most → Q (.int v) H'
theorem ok_l_off (T : T w K mg) : FnR P w K mg base CX0 1 (He.ga K "_law_off") (sp_l_off K) := by
  obtain ⟨fd, F⟩ := T.f_l_off
  refine F.r sc_l_off (fun _ _ _ _ _ _ us hl => match us, hl with | [_, _], _ => rfl) (fun vs H Q E h => ?_) (fun cdv A outer s H vs Q E hr h => ?_)
  · obtain ⟨_, _, _, _, _, _, rfl, _⟩ := h
    rfl
  · obtain ⟨d, sl, f, p, cs, most, rfl, D, c63, m0, m1, q⟩ := h
    have hu := hr.units
    refine ⟨_, (pss_cons (ps_set (i := 2) sc_l_off.nd rfl (Or.inl rfl) (pe_op op_mod (pe_ix ix_list (pv 0) pe_int (fun _ _ => rfl)) (pe_callB (call_max2 rfl) rfl T.u_max (by decide +kernel) (pa_cons pe_int (pa_cons (pe_callB call_len_seq rfl T.u_len PySem.boot_len (pa_cons (pe_ix ix_list (pv 0) pe_int (fun _ _ => rfl)) pa_nil)) pa_nil)))))
      (pss_cons (ps_set (i := 3) sc_l_off.nd rfl (Or.inl rfl) (pe_ifExp (pt_cmpR (op_neD hu) (pe_ix ix_list (pv 0) pe_int (fun _ _ => rfl)) (pe_lst pa_nil) (nomark _)) (pe_ix ix_list (pe_ix ix_list (pv 0) pe_int (fun _ _ => rfl)) (pv 2) (fun _ _ => rfl)) pe_int))
      (pss_cons (ps_if (pt_cmpR op_ge (pv 3) (pe_op op_pow pe_int pe_int) (nomark _))
      (pss_cons (ps_asg (pe_op op_fdiv (pv 3) (pv 1)) (pg_sub (pe_ix ix_list (pv 0) pe_int (fun _ _ => rfl)) (pv 2) set_list))
      (pss_one (ps_ret (pe_op op_mod (pv 3) (pv 1)))))
      pss_nil)
      (pss_cons (ps_asg (pe_op op_mod (pe_op op_add (pe_op op_add (pe_op op_mul (pe_ix ix_list (pv 0) pe_int (fun _ _ => rfl)) pe_int) (pe_op op_mul (pv 3) pe_int)) pe_int) pe_int) (pg_sub (pv 0) pe_int set_list))
      (pss_cons (ps_asg (pe_op op_add (pe_ix ix_list (pv 0) pe_int (fun _ _ => rfl)) pe_int) (pg_sub (pv 0) pe_int set_list))
      (pss_one (ps_ret (pe_op op_mod (pe_op op_fdiv (pe_ix ix_list (pv 0) pe_int (fun _ _ => rfl)) pe_int) (pv 1))))))))), ?_⟩
    refine ⟨_, rfl, _, _, _, _, rfl, rfl, SqL.of D.ob, rfl, ?_⟩ -- _law_d[2]
    refine ⟨_, rfl, _, _, _, _, rfl, rfl, SqL.of D.ob, rfl, ?_⟩ -- _law_d[1]
    refine ⟨_, _, rfl, .inl (SqL.of D.ls), ?_⟩ -- len
    rw [List.length_map]
    refine ⟨_, _, rfl, ?_⟩ -- max
    generalize hmx : (if ((cs.length : Nat) : Int) > 1 then ((cs.length : Nat) : Int) else 1) = mx
    have mx0 : 0 < mx := by rw [← hmx]; split <;> omega
    have mxc : 0 < cs.length → mx ≤ cs.length := fun h => by rw [← hmx]; split <;> omega
    refine ⟨_, _, rfl, rfl, mx0, ?_⟩
    have a0 : 0 ≤ p % mx := Int.emod_nonneg _ (by omega)
    have a1 : p % mx < mx := Int.emod_lt_of_pos _ mx0
    refine ⟨_, rfl, _, _, _, _, rfl, rfl, SqL.of D.ob, rfl, ?_⟩ -- _law_d[1]
    refine ⟨by show 0 ≤ sizeLine; decide, fun e he => ?_⟩ -- []
    have D1s : Same H (upd H e (.lst [])) := Same.new (Same.refl H) he
    have D1 : DiceAt (upd H e (.lst [])) d sl f p cs := ⟨D1s _ _ D.ob, D1s _ _ D.ls, D.f0, D.f1, D.p0, D.ne⟩
    refine ⟨.list (pyInts cs), .list (pyInts []), .lst (SqL.of D1.ls) (dp_ints cs), .lst (SqL.of upd_same) (dp_ints []), shaped_ints cs, shaped_ints [], ?_⟩
    have k1 : Kept [d, sl] H (upd H e (.lst [])) := Kept.same D1s
    generalize upd H e (.lst []) = H1 at D1 k1
    refine ⟨_, rfl, ?_⟩
    have rest : ∀ (cell : Int), (0 < cs.length ∨ cell = 0) → tSeq (tIfS (tTest (tOp (rI0 fun i j => .bl (decide (j ≤ i))) (tVar 3) (tOp (rI CPow fun i j => .int (i ^ j.toNat)) (tC (.int 10)) (tC (.int 18)))))
        (tSeq (tAsg (tOp (rI CDiv fun i j => .int (i / j)) (tVar 3) (tVar 1)) (gSub (tOp (rIxL K) (tVar 0) (tC (.int 1))) (tVar 2) rSetL)) (tRet (tOp (rI (fun _ j => 0 < j) fun i j => .int (i % j)) (tVar 3) (tVar 1)))) tNext)
        (tSeq (tAsg (tOp (rI (fun _ j => 0 < j) fun i j => .int (i % j)) (tOp (rI0 fun i j => .int (i + j)) (tOp (rI0 fun i j => .int (i + j)) (tOp (rI CMul fun i j => .int (i * j)) (tOp (rIxL K) (tVar 0) (tC (.int 0))) (tC (.int 48271))) (tOp (rI CMul fun i j => .int (i * j)) (tVar 3) (tC (.int 69621)))) (tC (.int 11))) (tC (.int 2147483647))) (gSub (tVar 0) (tC (.int 0)) rSetL))
        (tSeq (tAsg (tOp (rI0 fun i j => .int (i + j)) (tOp (rIxL K) (tVar 0) (tC (.int 2))) (tC (.int 1))) (gSub (tVar 0) (tC (.int 2)) rSetL)) (tRet (tOp (rI (fun _ j => 0 < j) fun i j => .int (i % j)) (tOp (rI CDiv fun i j => .int (i / j)) (tOp (rIxL K) (tVar 0) (tC (.int 0))) (tC (.int 64))) (tVar 1)))))
        { nx := fun _ H' => Q .non H', rt := Q } [some (.ref d), some (.int most), some (.int (p % mx)), some (.int cell)] H1 := by
      intro cell hcell
      refine ⟨_, rfl, _, _, rfl, rfl, ⟨by decide, by decide, by decide⟩, _, _, rfl, rfl, _, rfl, ?_⟩
      refine ite2 (fun c1 => ?_) (fun c1 => ?_)
      · have hc0 : 0 < cs.length := by
          rcases hcell with h | h
          · exact h
          · exfalso
            have := of_decide_eq_true c1
            rw [h] at this
            exact absurd this (by decide)
        have hmx' := mxc hc0
        refine ⟨_, rfl, _, rfl, _, _, rfl, rfl, ⟨m0, m1⟩, ?_⟩
        refine ⟨_, rfl, _, _, _, _, rfl, rfl, SqL.of D1.ob, rfl, ?_⟩
        refine ⟨_, rfl, _, _, _, _, rfl, rfl, D1.ls, ix_ok a0 (by rw [List.length_map]; omega), ?_⟩
        rw [set_int]
        refine ⟨_, rfl, _, rfl, _, _, rfl, rfl, m0, ?_⟩
        exact q _ f p _ _ ⟨by rw [upd_ne D1.ne]; exact D1.ob, upd_same, D1.f0, D1.f1, D1.p0, D1.ne⟩ (by rw [List.length_set]) (k1.put (by simp)) (Int.emod_nonneg _ (by omega)) (Int.emod_lt_of_pos _ m0)
      · refine ⟨_, rfl, _, _, _, _, rfl, rfl, SqL.of D1.ob, rfl, _, _, rfl, rfl, .inr ⟨by decide, by decide⟩, ?_⟩
        refine ⟨_, rfl, _, _, rfl, rfl, .inr ⟨by decide, by decide⟩, _, _, rfl, rfl, _, _, rfl, rfl, _, _, rfl, rfl, (by show (0 : Int) < 2147483647; decide), ?_⟩
        refine ⟨_, rfl, _, _, _, _, rfl, rfl, D1.ob, rfl, ?_⟩
        obtain ⟨f', hf⟩ : ∃ f', (f * 48271 + cell * 69621 + 11) % 2147483647 = f' := ⟨_, rfl⟩
        have f0' : 0 ≤ f' := by rw [← hf]; exact Int.emod_nonneg _ (by decide)
        have f1' : f' < 2147483647 := by rw [← hf]; exact Int.emod_lt_of_pos _ (by decide)
        have D2 : DiceAt (upd H1 d (.lst [.int f', .ref sl, .int p])) d sl f' p cs := ⟨upd_same, by rw [upd_ne (Ne.symm D1.ne)]; exact D1.ls, f0', f1', D1.p0, D1.ne⟩
        have k2 : Kept [d, sl] H (upd H1 d (.lst [.int f', .ref sl, .int p])) := k1.put (by simp)
        show (tSeq _ _) _ _ (upd H1 d (.lst [.int ((f * 48271 + cell * 69621 + 11) % 2147483647), .ref sl, .int p]))
        rw [hf]
        generalize upd H1 d (.lst [.int f', .ref sl, .int p]) = H2 at D2 k2
        refine ⟨_, rfl, _, _, _, _, rfl, rfl, SqL.of D2.ob, rfl, _, _, rfl, rfl, ?_⟩
        refine ⟨_, rfl, _, _, _, _, rfl, rfl, D2.ob, rfl, ?_⟩
        have D3 : DiceAt (upd H2 d (.lst [.int f', .ref sl, .int (p + 1)])) d sl f' (p + 1) cs := ⟨upd_same, by rw [upd_ne (Ne.symm D2.ne)]; exact D2.ls, f0', f1', by have := D2.p0; omega, D2.ne⟩
        have k3 : Kept [d, sl] H (upd H2 d (.lst [.int f', .ref sl, .int (p + 1)])) := k2.put (by simp)
        refine ⟨_, rfl, _, _, _, _, rfl, rfl, SqL.of D3.ob, rfl, _, _, rfl, rfl, ⟨by decide, by decide⟩, ?_⟩
        refine ⟨_, rfl, _, _, rfl, rfl, m0, ?_⟩
        exact q _ _ _ cs _ D3 rfl k3 (Int.emod_nonneg _ (by omega)) (Int.emod_lt_of_pos _ m0)
    dsimp only
    rw [eqv_nil]
    cases hcs : cs.isEmpty with
    | true =>
      refine iteF ?_
      exact rest 0 (.inr rfl)
    | false =>
      have hc0 : 0 < cs.length := by
        cases cs with
        | nil => cases hcs
        | cons a b => simp
      have hmx' := mxc hc0
      refine iteT ?_
      refine ⟨_, rfl, _, _, _, _, rfl, rfl, SqL.of D1.ob, rfl, ?_⟩
      refine ⟨_, rfl, _, _, _, _, rfl, rfl, SqL.of D1.ls, at_int a0 (by omega), ?_⟩
      exact rest _ (.inl hc0)
theorem DiceAt.same {H H' : Hp} {d sl : Addr} {f p : Int} {cs : List Int} (D : DiceAt H d sl f p cs) (s : Same H H') : DiceAt H' d sl f p cs := ⟨s _ _ D.ob, s _ _ D.ls, D.f0, D.f1, D.p0, D.ne⟩
theorem DiceAt.keep {H H' : Hp} {d sl : Addr} {f p : Int} {cs : List Int} {as : List Addr} (D : DiceAt H d sl f p cs) (k : Kept as H H') (h1 : d ∉ as) (h2 : sl ∉ as) : DiceAt H' d sl f p cs := ⟨k _ _ D.ob h1, k _ _ D.ls h2, D.f0, D.f1, D.p0, D.ne⟩
end
end SB

set_option Elab.async false
set_option linter.all false
set_option maxRecDepth 100000
set_option maxHeartbeats 2000000
namespace SB
open PySem L2
section
variable {P : Program} {w : World} {K : PySem.W.Frag} {mg : Str → Option Value} {base : Heap}
def sp_l_words (K : PySem.W.Frag) : Sp := fun vs H Q _ => ∃ (d sl : Addr) (f p : Int) (cs : List Int), vs = [.ref d] ∧ DiceAt H d sl f p cs ∧ cs.length ≤ 63 ∧
  ∀ (H' : Hp) (f' p' : Int) (cs' : List Int) (l : Addr) (ws : List Int), DiceAt H' d sl f' p' cs' → cs'.length = cs.length → Kept [d, sl] H H' → H l = none → H' l = some (.lst (ws.map V.int)) → 4 ≤ ws.length → ws.length ≤ 32 → (∀ x ∈ ws, rg 0 999 x) → Q (.ref l) H'
theorem ok_l_words (T : T w K mg) : FnR P w K mg base CX0 2 (He.ga K "_law_words") (sp_l_words K) := by
  have F_l_off : FnR P w K mg base CX0 1 _ _ := ok_l_off T
  obtain ⟨fd, F⟩ := T.f_l_words
  refine F.r sc_l_words (fun _ _ _ _ _ _ us hl => match us, hl with | [_], _ => rfl) (fun vs H Q E h => ?_) (fun cdv A outer s H vs Q E hr h => ?_)
  · obtain ⟨_, _, _, _, _, rfl, _⟩ := h
    rfl
  · obtain ⟨d, sl, f, p, cs, rfl, D, c63, q⟩ := h
    refine ⟨_, (pss_one (ps_ret (pe_lc (own := [("_law_k", 1)]) (g := gName 1) (tt := tYes) (te := tCallR (sp_l_off K) (tCons (tVar 0) (tCons (tC (.int 1000)) tNil))) rfl sc_l_words.nd
        (pi_range1 rfl T.u_range (pa_cons (pe_op op_add pe_int (pe_callR F_l_off (hr.mono (by decide)) rfl T.g_l_off T.k_l_off (pa_cons (pv 0) (pa_cons (pe_ix ix_list (pe_lst (pa_cons pe_int (pa_cons pe_int pa_nil))) (pe_callR F_l_off (hr.mono (by decide)) rfl T.g_l_off T.k_l_off (pa_cons (pv 0) (pa_cons pe_int pa_nil))) (fun _ _ => rfl)) pa_nil)))) pa_nil))
        (blkOk_by (N := ["_law_d", "_law_k"]) (sc := defScope s_l_words) (by decide +kernel))
        (fun _ _ _ _ _ => pg_name (i := 1) sc_l_words.nd rfl (Or.inl rfl)) (fun _ _ _ _ _ => pts_nil)
        (fun _ _ _ _ _ => pe_callR F_l_off (hr.mono (by decide)) rfl T.g_l_off T.k_l_off (pa_cons (pv 0) (pa_cons pe_int pa_nil)))))), ?_⟩
    refine ⟨_, rfl, ?_⟩ -- _law_d
    refine ⟨by show 2 ≤ sizeLine; decide, fun b hb => ?_⟩ -- [5, 29]
    have s1 : Same H (upd H b (.lst [.int 5, .int 29])) := Same.new (Same.refl H) hb
    refine ⟨_, rfl, d, sl, f, p, cs, 2, rfl, D.same s1, c63, by decide, by decide, fun H2 f2 p2 cs2 v D2 c2 k2 v0 v1 => ?_⟩ -- off(2)
    have kb : H2 b = some (.lst [.int 5, .int 29]) := by
      refine k2 _ _ upd_same ?_
      have h1 : b ≠ d := fun z => by rw [z, D.ob] at hb; cases hb
      have h2 : b ≠ sl := fun z => by rw [z, D.ls] at hb; cases hb
      simp [h1, h2]
    obtain ⟨m, hm, m0, m1⟩ : ∃ m : Int, atI ([.int 5, .int 29] : List V) v = some (.int m) ∧ 5 ≤ m ∧ m ≤ 29 := by
      have : v = 0 ∨ v = 1 := by omega
      rcases this with rfl | rfl
      · exact ⟨5, rfl, by decide, by decide⟩
      · exact ⟨29, rfl, by decide, by decide⟩
    refine ⟨_, _, _, _, rfl, rfl, SqL.of kb, hm, ?_⟩
    refine ⟨d, sl, f2, p2, cs2, m, rfl, D2, by omega, by omega, by omega, fun H3 f3 p3 cs3 n D3 c3 k3 n0 n1 => ?_⟩ -- off(m)
    refine ⟨_, _, rfl, rfl, ?_⟩
    refine ⟨4 + n, rfl, by omega, by omega, fun R hR => ?_⟩
    have kk3 : Kept [d, sl] H H3 := ((Kept.same s1).trans k2).trans k3
    have fr : ∀ {H9 : Hp} {f9 p9 : Int} {cs9 : List Int} {y : Addr}, Kept [d, sl] H H9 → DiceAt H9 d sl f9 p9 cs9 → H9 y = none → H y = none := fun {H9 f9 p9 cs9 y} k9 D9 hy => by
      refine k9.free hy fun z => ?_
      have e : y = d ∨ y = sl := by simpa using z
      rcases e with rfl | rfl
      · rw [D9.ob] at hy; cases hy
      · rw [D9.ls] at hy; cases hy
    have hR0 : H R = none := fr kk3 D3 hR
    have Rd : R ≠ d := fun z => by rw [z, D.ob] at hR0; cases hR0
    have Rs : R ≠ sl := fun z => by rw [z, D.ls] at hR0; cases hR0
    have sR : Same H3 (upd H3 R (.lst [])) := Same.new (Same.refl H3) hR
    refine lc_it walk_range (fun i H4 => ∃ (f4 p4 : Int) (cs4 ws : List Int), DiceAt H4 d sl f4 p4 cs4 ∧ cs4.length = cs.length ∧ Kept [d, sl] H H4 ∧ H4 R = some (.lst (ws.map V.int)) ∧ ws.length = i ∧ ∀ x ∈ ws, rg 0 999 x)
      ⟨f3, p3, cs3, [], D3.same sR, by omega, kk3.new hR0, upd_same, rfl, by simp⟩ (fun i H4 _ _ => trivial) ?_ ?_
    · rintro i x H4 H5 hi ⟨f4, p4, cs4, ws, D4, c4, k4, hR4, hl, hx⟩ ⟨rfl, rfl⟩
      refine ⟨rfl, yes ?_⟩
      refine ⟨_, rfl, d, sl, f4, p4, cs4, 1000, rfl, D4, by omega, by decide, by decide, fun H6 f6 p6 cs6 v6 D6 c6 k6 v60 v61 => ?_⟩
      have hR6 : H6 R = some (.lst (ws.map V.int)) := k6 _ _ hR4 (by simp [Rd, Rs])
      refine ⟨_, hR6, by rw [List.length_map, hl]; exact Nat.lt_of_lt_of_le hi (Nat.le_trans (show (4 + n).toNat ≤ 100 by omega) (by decide)), f6, p6, cs6, ws ++ [v6], ?_, by omega, ?_, ?_, by simp [hl], ?_⟩
      · exact ⟨by rw [upd_ne (Ne.symm Rd)]; exact D6.ob, by rw [upd_ne (Ne.symm Rs)]; exact D6.ls, D6.f0, D6.f1, D6.p0, D6.ne⟩
      · exact (k4.trans k6).new hR0
      · rw [upd_same, List.map_append]
        rfl
      · intro y hy
        rcases List.mem_append.mp hy with hy | hy
        · exact hx y hy
        · have e : y = v6 := by simpa using hy
          rw [e]
          exact ⟨v60, by omega⟩
    · rintro H4 ⟨f4, p4, cs4, ws, D4, c4, k4, hR4, hl, hx⟩
      exact q _ f4 p4 cs4 R ws D4 c4 k4 hR0 hR4 (by omega) (by omega) hx
end
end SB

set_option Elab.async false
set_option linter.all false
set_option maxRecDepth 100000
set_option maxHeartbeats 2000000
namespace SB
open PySem L2
def HS.after (s : HS) : Nat → HS
  | 0 => s
  | n + 1 => (s.after n).next
def HS.gafter (s : HS) (g : GH) : Nat → GH
  | 0 => g
  | n + 1 => (s.after n).gnext (s.gafter g n)
abbrev BeatE := Option (Int × Str × Int × Int) × MT
def HS.ent (s : HS) : BeatE := (s.dm.2.2.2, s.ms.2.2.2)
def HS.log (s : HS) (n : Nat) : List BeatE := (List.range n).map fun i => (s.after i).ent
theorem HS.log_len (s : HS) (n : Nat) : (s.log n).length = n := by unfold HS.log; rw [List.length_map, List.length_range]
theorem HS.log_succ (s : HS) (n : Nat) : s.log (n + 1) = s.log n ++ [(s.after n).ent] := by
  unfold HS.log
  rw [List.range_succ, List.map_append]
  rfl
theorem HOk.after {s : HS} (O : HOk s) : ∀ n, HOk (s.after n)
  | 0 => O
  | n + 1 => (O.after n).next
def TAt (H : Hp) (v : V) : Option (Int × Str × Int × Int) → Prop
  | none => v = .non
  | some (j, z, a, x) => ∃ p, v = .ref p ∧ H p = some (.tup [.int j, .str z, .int a, .int x])
def MAt (H : Hp) (v : V) : MT → Prop
  | .ends => v = .str "ends"
  | .waits => v = .str "waits"
  | .goes => v = .str "goes"
  | .word z a x => ∃ q, v = .ref q ∧ H q = some (.tup [.str z, .int a, .int x])
structure EntAt (H : Hp) (p : Addr) (e : BeatE) (v1 v2 : V) : Prop where
  tup : H p = some (.tup [v1, v2])
  t : TAt H v1 e.1
  m : MAt H v2 e.2
structure LogAt (H : Hp) (l : Addr) (ps : List Addr) (es : List BeatE) : Prop where
  lst : H l = some (.lst (ps.map V.ref))
  len : ps.length = es.length
  at_ : ∀ (j : Nat) (p : Addr) (e : BeatE), ps[j]? = some p → es[j]? = some e → ∃ v1 v2, EntAt H p e v1 v2
section
variable {P : Program} {w : World} {K : PySem.W.Frag} {mg : Str → Option Value} {base : Heap} {H H' : Hp} {as : List Addr}
def Tk (H H' : Hp) : Prop := ∀ b vs, H b = some (.tup vs) → H' b = some (.tup vs)
theorem Tk.of (k : Kept as H H') (hn : ∀ b ∈ as, ∃ u, H b = some u ∧ notTup u = true) : Tk H H' := fun b vs hb => k _ _ hb fun z => by
  obtain ⟨u, hu, nt⟩ := hn b z
  rw [hb] at hu
  cases hu
  cases nt
theorem Tk.same (s : Same H H') : Tk H H' := fun b vs hb => s _ _ hb
theorem Tk.trans {H'' : Hp} (a : Tk H H') (b : Tk H' H'') : Tk H H'' := fun c vs h => b _ _ (a _ _ h)
theorem TAt.keep {v : V} {x : Option (Int × Str × Int × Int)} (h : TAt H v x) (k : Tk H H') : TAt H' v x := by
  cases x with
  | none => exact h
  | some z =>
    obtain ⟨z1, z2, z3, z4⟩ := z
    obtain ⟨p, e, hp⟩ := h
    exact ⟨p, e, k _ _ hp⟩
theorem MAt.keep {v : V} {x : MT} (h : MAt H v x) (k : Tk H H') : MAt H' v x := by
  cases x with
  | word z a y =>
    obtain ⟨p, e, hp⟩ := h
    exact ⟨p, e, k _ _ hp⟩
  | ends => exact h
  | waits => exact h
  | goes => exact h
theorem EntAt.keep {p : Addr} {e : BeatE} {v1 v2 : V} (h : EntAt H p e v1 v2) (k : Tk H H') : EntAt H' p e v1 v2 := ⟨k _ _ h.tup, h.t.keep k, h.m.keep k⟩
theorem LogAt.keep {l : Addr} {ps : List Addr} {es : List BeatE} (h : LogAt H l ps es) (k : Tk H H') (hl : H' l = some (.lst (ps.map V.ref))) : LogAt H' l ps es :=
  ⟨hl, h.len, fun j p e e1 e2 => let ⟨v1, v2, x⟩ := h.at_ j p e e1 e2; ⟨v1, v2, x.keep k⟩⟩
theorem LogAt.same {l : Addr} {ps : List Addr} {es : List BeatE} (h : LogAt H l ps es) (s : Same H H') : LogAt H' l ps es := h.keep (Tk.same s) (s _ _ h.lst)
theorem LogAt.snoc {l : Addr} {ps : List Addr} {es : List BeatE} (h : LogAt H l ps es) {p : Addr} {e : BeatE} {v1 v2 : V} (k : Tk H H') (hp : EntAt H' p e v1 v2) (hl : H' l = some (.lst ((ps ++ [p]).map V.ref))) : LogAt H' l (ps ++ [p]) (es ++ [e]) := by
  refine ⟨hl, by simp [h.len], fun j q e' e1 e2 => ?_⟩
  by_cases hj : j < ps.length
  · rw [List.getElem?_append_left hj] at e1
    rw [List.getElem?_append_left (by rw [← h.len]; exact hj)] at e2
    obtain ⟨u1, u2, x⟩ := h.at_ j q e' e1 e2
    exact ⟨u1, u2, x.keep k⟩
  · have ej : j = ps.length := by
      have := (List.getElem?_eq_some_iff.mp e1).1
      rw [List.length_append] at this
      simp at this
      omega
    subst ej
    rw [List.getElem?_append_right (Nat.le_refl _), Nat.sub_self] at e1
    rw [List.getElem?_append_right (by rw [h.len]; exact Nat.le_refl _), h.len, Nat.sub_self] at e2
    have e5 : p = q := by simpa using e1
    have e6 : e = e' := by simpa using e2
    subst e5 e6
    exact ⟨v1, v2, hp⟩
structure NotIn (R : Addr) (a : HA) : Prop where
  f : R ∉ a.foot
  al : R ≠ a.al
variable {a : HA} {s : HS} {g : GH} {R : Addr} {xs : List V}
theorem HallAt.fresh (L : HallAt K H a s g) (hR : H R = none) : NotIn R a := by
  refine ⟨fun z => ?_, ne_of_none' L.als hR⟩
  obtain ⟨u, hu, _⟩ := L.inF R z
  rw [hR] at hu
  cases hu
theorem HallAt.keepR (L : HallAt K H a s g) (hR : H R = some (.lst xs)) (n : NotIn R a) (k : Kept [R] H H') : HallAt K H' a s g := L.stay k (fun b hb z => n.f (by
    have e : b = R := by simpa using z
    rw [← e]
    exact hb)) (by simpa using Ne.symm n.al) (fun b hb => by
    have e : b = R := by simpa using hb
    rw [e]
    exact ⟨_, hR, rfl⟩)
theorem NotIn.step {a' : HA} {o : HO} (n : NotIn R a) (le : HLe a a') (st : Step a.foot H a'.foot H') (h : H R = some o) : NotIn R a' := ⟨st.apart h n.f, by rw [le.al]; exact n.al⟩
theorem HallAt.nfoot (L : HallAt K H a s g) (hR : H R = none) : R ∉ a.foot := fun z => by
  obtain ⟨u, hu, _⟩ := L.inF R z
  rw [hR] at hu
  cases hu
theorem ToldB.ent {H0 : Hp} {v : V} (h : ToldB H0 H' v s.dm.2.2.2 s.ms.2.2.2) : ∃ p v1 v2, v = .ref p ∧ EntAt H' p s.ent v1 v2 ∧ H0 p = none := by
  obtain ⟨p, v1, v2, e, np, hp, t1, t2⟩ := h
  refine ⟨p, v1, v2, e, ⟨hp, ?_, ?_⟩, np⟩
  · show TAt H' v1 s.dm.2.2.2
    cases hx : s.dm.2.2.2 with
    | none => rw [hx] at t1; exact t1
    | some z =>
      rw [hx] at t1
      obtain ⟨z1, z2, z3, z4⟩ := z
      obtain ⟨y, e, _, hy⟩ := t1
      exact ⟨y, e, hy⟩
  · show MAt H' v2 s.ms.2.2.2
    cases hx : s.ms.2.2.2 with
    | word z a x =>
      rw [hx] at t2
      obtain ⟨y, e, _, hy⟩ := t2
      exact ⟨y, e, hy⟩
    | ends => rw [hx] at t2; exact t2
    | waits => rw [hx] at t2; exact t2
    | goes => rw [hx] at t2; exact t2
theorem ShownAt.out {H0 H1 H2 H3 : Hp} {p c w' k g : Addr} {gs : List Addr} {s : HS} (S : ShownAt H1 H2 p c w' k g gs s) (a : Same H0 H1) (b : Same H2 H3) : ShownAt H0 H3 p c w' k g gs s :=
  ⟨b _ _ S.tup, b _ _ S.hc, b _ _ S.hw, b _ _ S.hk, S.hg.keep b, Same.free a S.np, Same.free a S.nc, Same.free a S.nw, Same.free a S.nk, Same.free a S.ng, S.nd⟩
theorem at0_ok {prog : List Row} {ks : List Wk} {ws : List Int} {as : List (Int × Int)} (pok : ∀ r ∈ prog, r.ok prog.length) (k6 : ks.length ≤ 6) (wok : ∀ k ∈ ks, WOk ks.length k) (w4 : 4 ≤ ws.length) (ao : AOk ks.length as) : HOk (HS.at0 prog as ks ws) := by
  refine ⟨⟨rfl, rfl, Int.le_refl 0, by show (0 : Int) ≤ _; omega, Int.le_refl 0, fun r hr => Row.beats_pos (pok r (List.mem_of_getElem? hr)), pok⟩, by show 0 < ws.length; omega, fun k hk => ?_, fun x hx => (ao.each x hx).2.1, ao.len, by show (ks.map Wk.fresh).length ≤ 6; rw [List.length_map]; omega⟩
  obtain ⟨k0, hk0, rfl⟩ := List.mem_map.mp hk
  have o := wok k0 hk0
  refine ⟨?_, fun i hi => ?_, fun x hx => (o.fo x hx).1⟩
  · have := o.c.1
    show 0 < k0.block
    omega
  · have := o.mar i hi
    have a1 := this.1
    have a2 := this.2
    exact ⟨a1, by omega⟩
end
end SB

set_option Elab.async false
set_option linter.all false
set_option maxRecDepth 100000
set_option maxHeartbeats 2000000
namespace SB
open PySem L2
section
variable {P : Program} {w : World} {K : PySem.W.Frag} {mg : Str → Option Value} {base : Heap} {H H' : Hp} {as : List Addr}
variable {a : HA} {s : HS} {g : GH} {R : Addr} {xs : List V}
def sp_check_beats (K : PySem.W.Frag) : Sp := fun vs H Q _ => ∃ n : Int, vs = [.int n] ∧ rg 0 300 n ∧ Q .non H
theorem ok_check_beats (T : T w K mg) : FnR P w K mg base CX0 3 (He.ga K "check_beats") (sp_check_beats K) := by
  have F_is_number : FnR P w K mg base CX0 1 _ _ := ok_is_number T
  obtain ⟨t1, g_MOST_BEATS⟩ := T.i_MOST_BEATS
  obtain ⟨fd, F⟩ := T.f_check_beats
  refine F.r sc_check_beats (fun _ _ _ _ _ _ us hl => match us, hl with | [_], _ => rfl) (fun vs H Q E h => ?_) (fun cdv A outer s H vs Q E hr h => ?_)
  · obtain ⟨_, rfl, _⟩ := h
    rfl
  · obtain ⟨n, rfl, hn, q⟩ := h
    refine ⟨_, (pss_one (ps_if (pt_not (pt_val (pe_callR F_is_number (hr.mono (by decide)) rfl T.g_is_number T.k_is_number (pa_cons (pv 0) (pa_cons pe_int (pa_cons (pe_glob (v := .int 300) rfl g_MOST_BEATS ⟨_, rfl⟩) pa_nil))))))
      (pss_one ps_never)
      pss_nil)), ?_⟩
    refine ⟨_, rfl, _, 0, 300, "int", rfl, .int _, ?_⟩
    rw [num_ok hn]
    exact ⟨_, rfl, iteF q⟩
structure RanAt (H H' : Hp) (p l q c w' k g : Addr) (ps gs : List Addr) (s : HS) (n : Nat) : Prop where
  tup : H' p = some (.tup [.ref l, .ref q])
  log : LogAt H' l ps (s.log n)
  sh : ShownAt H H' q c w' k g gs (s.after n)
  np : H p = none
  nl : H l = none
  lq : l ∉ [c, w', k, g]
def sp_run (K : PySem.W.Frag) : Sp := fun vs H Q _ => ∃ (pa wl ml al : Addr) (rs ts qs : List Addr) (prog : List Row) (ks : List Wk) (ws : List Int) (as : List (Int × Int)) (n : Int), vs = [.ref pa, .ref wl, .ref ml, .ref al, .int n] ∧
  ProgAt K H pa rs prog ∧ 0 < prog.length ∧ prog.length ≤ 40 ∧ (∀ r ∈ prog, r.ok prog.length) ∧ WorksAt K H wl ts ks ∧ ks.length ≤ 6 ∧ (∀ k ∈ ks, WOk ks.length k) ∧ SqL K H ml (ws.map V.int) ∧ 4 ≤ ws.length ∧ ws.length ≤ 32 ∧ (∀ x ∈ ws, rg 0 999 x) ∧ AsksAt K H al qs as ∧ AOk ks.length as ∧ rg 0 300 n ∧
  ∀ H' p l q c w' k g ps gs, RanAt H H' p l q c w' k g ps gs (HS.at0 prog as ks ws) n.toNat → Same H H' → Q (.ref p) H'
theorem ok_run (T : T w K mg) : FnR P w K mg base CX0 9 (He.ga K "run") (sp_run K) := by
  have F_Hall_init : FnR P w K mg base CX0 7 _ _ := ok_Hall_init T
  have F_Hall_beat : FnR P w K mg base CX0 7 _ _ := ok_Hall_beat T
  have F_Hall_shown : FnR P w K mg base CX0 5 _ _ := ok_Hall_shown T
  have F_check_beats : FnR P w K mg base CX0 3 _ _ := ok_check_beats T
  obtain ⟨fd, F⟩ := T.f_run
  refine F.r sc_run (fun _ _ _ _ _ _ us hl => match us, hl with | [_, _, _, _, _], _ => rfl) (fun vs H Q E h => ?_) (fun cdv A outer s H vs Q E hr h => ?_)
  · obtain ⟨_, _, _, _, _, _, _, _, _, _, _, _, rfl, _⟩ := h
    rfl
  · obtain ⟨pa, wl, ml, al, rs, ts, qs, prog, ks, ws, as, n, rfl, Pr, p0, p40, pok, W, k6, wok, Ml, w4, w32, mok, As, ao, hn, q⟩ := h
    refine ⟨_, (pss_cons (ps_set (i := 5) sc_run.nd rfl (Or.inr rfl) (pe_mkR T.mk_Hall F_Hall_init (hr.mono (by decide)) rfl T.g_Hall (pa_cons (pv 0) (pa_cons (pv 1) (pa_cons (pv 2) (pa_cons (pv 3) pa_nil))))))
      (pss_cons (ps_expr (pe_callR F_check_beats (hr.mono (by decide)) rfl T.g_check_beats T.k_check_beats (pa_cons (pv 4) pa_nil)))
      (pss_cons (ps_setLc (i := 6) (own := [("done", 7)]) (g := gName 7) (tt := tYes) (te := tMethR (He.ga K "Hall") "beat" (sp_Hall_beat K) E0 (tVar 5) tNil) rfl sc_run.nd rfl rfl (sw_true rfl rfl rfl (by decide +kernel))
        (pi_range1 rfl T.u_range (pa_cons (pv 4) pa_nil))
        (blkOk_by (N := ["program", "works", "memory", "asks", "beats", "hall", "told", "done"]) (sc := defScope s_run) (by decide +kernel))
        (fun _ _ _ _ _ => pg_name (i := 7) sc_run.nd rfl (Or.inl rfl)) (fun _ _ _ _ _ => pts_nil)
        (fun _ _ _ _ _ => pe_mth0R (pv 5) T.cl_Hall T.m_Hall_beat F_Hall_beat (hr.mono (by decide))))
      (pss_one (ps_ret (pe_tup (pa_cons (pv 6) (pa_cons (pe_mth0R (pv 5) T.cl_Hall T.m_Hall_shown F_Hall_shown (hr.mono (by decide))) pa_nil)))))))), ?_⟩
    obtain ⟨hn0, hn1⟩ := hn
    have O := at0_ok pok k6 wok w4 ao
    refine ⟨_, rfl, _, rfl, _, rfl, _, rfl, ?_⟩
    intro h dh nh ndh neh
    have s1 : Same H (upd (upd H dh (.own h)) h (.ins (cHall K) dh [])) := fun b o e => by
      rw [upd_ne (ne_of_none e nh), upd_ne (ne_of_none e ndh)]
      exact e
    refine ⟨h, dh, pa, wl, ml, al, rs, ts, qs, prog, ks, ws, as, rfl, upd_same, Pr.same s1, p0, p40, pok, W.same s1, k6, wok, s1.seq Ml, w4, w32, mok, As.same s1, ao, fun H2 A' hA L0 nf nal k2 => ⟨rfl, ?_⟩⟩ -- Hall(..)
    have s2 : Same H H2 := fun b o e => k2 b o (s1 b o e) (by simpa using ne_of_none e nh)
    have nf0 : ∀ b ∈ A'.foot, H b = none := fun b hb => by
      by_cases e : b = h
      · rw [e]; exact nh
      · exact Same.free s1 (nf b hb e)
    subst hA
    refine ⟨_, rfl, n, rfl, ⟨hn0, hn1⟩, ?_⟩ -- check_beats(beats)
    refine ⟨_, rfl, n, rfl, by omega, by omega, fun R hR => ?_⟩
    have hR0 : H R = none := Same.free s2 hR
    have nI := L0.fresh hR
    have nR := L0.nfoot hR
    have s3 : Same H2 (upd H2 R (.lst [])) := Same.new (Same.refl _) hR
    refine lc_it walk_range (fun i H4 => ∃ ps A4, LogAt H4 R ps ((HS.at0 prog as ks ws).log i) ∧ A4.h = A'.h ∧ HallAt K H4 A4 ((HS.at0 prog as ks ws).after i) ((HS.at0 prog as ks ws).gafter (GH.none ks.length) i) ∧ NotIn R A4 ∧ (∀ b ∈ A4.foot, H b = none) ∧ Same H H4)
      ⟨[], A', ⟨upd_same, rfl, fun j p e h1 => by simp at h1⟩, rfl, L0.same s3, nI, nf0, s2.trans s3⟩ (fun i H4 _ _ => trivial) ?_ ?_
    · rintro i x H4 H5 hi ⟨ps, A4, Lg, eh, L4, nI4, nf4, s4⟩ ⟨rfl, rfl⟩
      refine ⟨rfl, yes ?_⟩
      refine ⟨_, rfl, _, _, _, rfl, by rw [← eh]; exact L4.ob, hl_no_beat _, ?_⟩
      refine ⟨A4, _, _, by rw [eh], L4, O.after i, fun H6 A6 v le6 L6 st6 tb => ?_⟩
      obtain ⟨p, v1, v2, rfl, Ee, np⟩ := tb.ent
      have hR6 : H6 R = some (.lst (ps.map V.ref)) := st6.kp _ _ Lg.lst nI4.f
      have nI6 : NotIn R A6 := nI4.step le6 st6 Lg.lst
      have kR : Kept [R] H6 (upd H6 R (.lst (ps.map V.ref ++ [V.ref p]))) := (Kept.refl _ _).put (by simp)
      have t67 : Tk H6 (upd H6 R (.lst (ps.map V.ref ++ [V.ref p]))) := Tk.of kR (fun b hb => by
        have e : b = R := by simpa using hb
        rw [e]
        exact ⟨_, hR6, rfl⟩)
      have hlen : ps.length = i := by rw [Lg.len, HS.log_len]
      refine ⟨_, hR6, by rw [List.length_map, hlen]; exact Nat.lt_of_lt_of_le hi (Nat.le_trans (show n.toNat ≤ 1000 by omega) (by decide)), ps ++ [p], A6, ?_, le6.h.trans eh, L6.keepR hR6 nI6 kR, nI6, fun b hb => ?_, ?_⟩
      · rw [HS.log_succ]
        exact Lg.snoc ((Tk.of st6.kp L4.inF).trans t67) (Ee.keep t67) (by rw [upd_same]; simp)
      · rcases st6.gr b hb with z | z
        · exact nf4 b z
        · exact Same.free s4 z
      · intro b o e
        rw [upd_ne (ne_of_none e hR0)]
        exact st6.kp b o (s4 b o e) (fun z => by rw [nf4 b z] at e; cases e)
    · rintro H4 ⟨ps, A4, Lg, eh, L4, nI4, nf4, s4⟩
      refine ⟨_, rfl, ?_⟩ -- told
      refine ⟨_, rfl, _, _, _, rfl, by rw [← eh]; exact L4.ob, hl_no_shown _, ?_⟩
      refine ⟨A4, _, _, by rw [eh], L4, O.after _, fun H5 q' c w' k g gs S5 s5 => ?_⟩ -- hall.shown()
      refine ⟨by show 2 ≤ sizeLine; decide, fun p hp => ?_⟩
      have s6 : Same H5 (upd H5 p (.tup [.ref R, .ref q'])) := Same.new (Same.refl _) hp
      refine q _ p R q' c w' k g ps gs ⟨upd_same, (Lg.same s5).same s6, S5.out s4 s6, Same.free (s4.trans s5) hp, hR0, ?_⟩ ((s4.trans s5).trans s6)
      have a1 : R ≠ c := ne_of_none Lg.lst S5.nc
      have a2 : R ≠ w' := ne_of_none Lg.lst S5.nw
      have a3 : R ≠ k := ne_of_none Lg.lst S5.nk
      have a4 : R ≠ g := ne_of_none Lg.lst S5.ng
      simp [a1, a2, a3, a4]
end
end SB

set_option Elab.async false
set_option linter.all false
set_option maxRecDepth 100000
set_option maxHeartbeats 2000000
namespace SB
open PySem L2
def dT : Option (Int × Str × Int × Int) → PyData
  | none => .none
  | some (j, z, a, x) => .tuple [.int j, .str z, .int a, .int x]
def dM : MT → PyData
  | .ends => .str "ends"
  | .waits => .str "waits"
  | .goes => .str "goes"
  | .word z a x => .tuple [.str z, .int a, .int x]
def dE (e : BeatE) : PyData := .tuple [dT e.1, dM e.2]
def WdOk (z : Str) : Prop := z = "get" ∨ z = "put"
structure EOk (e : BeatE) : Prop where
  t : ∀ j z a x, e.1 = some (j, z, a, x) → WdOk z
  m : ∀ z a x, e.2 = .word z a x → WdOk z
theorem wd_lay {z : Str} (h : WdOk z) : PyData.canLay0 (.str z) = true := by
  rcases h with rfl | rfl <;> decide +kernel
theorem dT_lay {t : Option (Int × Str × Int × Int)} (h : ∀ j z a x, t = some (j, z, a, x) → WdOk z) : PyData.canLay0 (dT t) = true := by
  cases t with
  | none => rfl
  | some y =>
    obtain ⟨j, z, a, x⟩ := y
    have := wd_lay (h j z a x rfl)
    show (true && (PyData.canLay0 (.str z) && (true && (true && true)))) = true
    rw [this]
    rfl
theorem dM_lay {t : MT} (h : ∀ z a x, t = .word z a x → WdOk z) : PyData.canLay0 (dM t) = true := by
  cases t with
  | word z a x =>
    have := wd_lay (h z a x rfl)
    show (PyData.canLay0 (.str z) && (true && (true && true))) = true
    rw [this]
    rfl
  | ends => decide +kernel
  | waits => decide +kernel
  | goes => decide +kernel
theorem dE_lay {e : BeatE} (h : EOk e) : PyData.canLay0 (dE e) = true := by
  show (PyData.canLay0 (dT e.1) && (PyData.canLay0 (dM e.2) && true)) = true
  rw [dT_lay h.t, dM_lay h.m]
  rfl
theorem dT_deep (t : Option (Int × Str × Int × Int)) : PyData.depth (dT t) ≤ 1 := by
  cases t with
  | none => exact Nat.zero_le _
  | some y => obtain ⟨j, z, a, x⟩ := y; exact Nat.le_refl _
theorem dM_deep (t : MT) : PyData.depth (dM t) ≤ 1 := by
  cases t <;> first | exact Nat.zero_le _ | exact Nat.le_refl _
theorem dE_deep (e : BeatE) : PyData.depth (dE e) ≤ 2 := by
  have h1 := dT_deep e.1
  have h2 := dM_deep e.2
  show max (PyData.depth (dT e.1)) (max (PyData.depth (dM e.2)) 0) + 1 ≤ 2
  omega
theorem lay_all {α : Type} {f : α → PyData} : ∀ xs : List α, (∀ x ∈ xs, PyData.canLay0 (f x) = true) → PyData.canLayAll0 (xs.map f) = true
  | [], _ => rfl
  | x :: r, h => by
    show (PyData.canLay0 (f x) && PyData.canLayAll0 (r.map f)) = true
    rw [h x List.mem_cons_self, lay_all r (fun y hy => h y (List.mem_cons_of_mem _ hy))]
    rfl
theorem deep_all {α : Type} {f : α → PyData} {n : Nat} (h : ∀ x, PyData.depth (f x) ≤ n) : ∀ xs : List α, PyData.depthAll (xs.map f) ≤ n
  | [] => Nat.zero_le _
  | x :: r => by
    have h1 := h x
    have h2 := deep_all h r
    show max (PyData.depth (f x)) (PyData.depthAll (r.map f)) ≤ n
    omega
theorem shaped_all {α : Type} {f : α → PyData} {n : Nat} (hn : n < 64) (xs : List α) (h : ∀ x ∈ xs, PyData.canLay0 (f x) = true) (hd : ∀ x, PyData.depth (f x) ≤ n) : SeqAt.shaped (.list (xs.map f)) = true := by
  have := deep_all hd xs
  show (PyData.canLayAll0 (xs.map f) && decide (PyData.depthAll (xs.map f) + 1 ≤ 64)) = true
  rw [lay_all xs h, decide_eq_true (by omega)]
  rfl
theorem eqv_self {d : PyData} (h : SeqAt.shaped d = true) : PyData.eqv d d = true := SeqAt.eqv_refl d (SeqAt.canLay_of_shaped h)
section
variable {K : PySem.W.Frag} {H : Hp}
theorem dpAll_of {α : Type} {f : α → PyData} : ∀ (ps : List Addr) (es : List α), ps.length = es.length → (∀ (j : Nat) (p : Addr) (e : α), ps[j]? = some p → es[j]? = some e → Dp K H (.ref p) (f e)) → DpAll K H (ps.map V.ref) (es.map f)
  | [], [], _, _ => .nil
  | [], _ :: _, h, _ => by simp at h
  | _ :: _, [], h, _ => by simp at h
  | p :: ps, e :: es, h, g => .cons (g 0 p e rfl rfl) (dpAll_of ps es (by simpa using h) (fun j q d h1 h2 => g (j + 1) q d (by simpa using h1) (by simpa using h2)))
theorem TAt.dp {v : V} {t : Option (Int × Str × Int × Int)} (h : TAt H v t) : Dp K H v (dT t) := by
  cases t with
  | none =>
    have e : v = .non := h
    rw [e]
    exact .non
  | some y =>
    obtain ⟨j, z, a, x⟩ := y
    obtain ⟨p, rfl, hp⟩ := h
    exact .tup (SqT.of hp) (.cons (.int _) (.cons (.str _) (.cons (.int _) (.cons (.int _) .nil))))
theorem MAt.dp {v : V} {t : MT} (h : MAt H v t) : Dp K H v (dM t) := by
  cases t with
  | word z a x =>
    obtain ⟨p, rfl, hp⟩ := h
    exact .tup (SqT.of hp) (.cons (.str _) (.cons (.int _) (.cons (.int _) .nil)))
  | ends => have e : v = .str "ends" := h; rw [e]; exact .str _
  | waits => have e : v = .str "waits" := h; rw [e]; exact .str _
  | goes => have e : v = .str "goes" := h; rw [e]; exact .str _
theorem EntAt.dp {p : Addr} {e : BeatE} {v1 v2 : V} (h : EntAt H p e v1 v2) : Dp K H (.ref p) (dE e) := .tup (SqT.of h.tup) (.cons h.t.dp (.cons h.m.dp .nil))
theorem LogAt.dpAll {l : Addr} {ps : List Addr} {es : List BeatE} (h : LogAt H l ps es) : DpAll K H (ps.map V.ref) (es.map dE) :=
  dpAll_of ps es h.len (fun j p e h1 h2 => let ⟨_, _, x⟩ := h.at_ j p e h1 h2; x.dp)
end
theorem word_ok {r : Row} {spent : Int} {cells : List Int} {z : Str} {p c : Int} (h : r.word spent cells = some (z, p, c)) : WdOk z := by
  cases r <;> simp [Row.word] at h <;> first | exact .inl h.1.symm | exact .inr h.1.symm
theorem ent_ok (s : HS) : EOk s.ent := by
  constructor
  · intro j z a x h
    have h' : s.dm.2.2.2 = some (j, z, a, x) := h
    unfold HS.dm devMove at h'
    cases e : (askAll s.beats s.ks s.asks).findIdx? (takes s.S.marks (wantedOf s.prog s.S).isSome s.took) with
    | none => rw [e] at h'; cases h'
    | some i =>
      rw [e] at h'
      cases e2 : (askAll s.beats s.ks s.asks)[i]? with
      | none => simp only [e2] at h'; cases h'
      | some k =>
        simp only [e2] at h'
        have h2 := Option.some.inj h'
        unfold Wk.move at h2
        cases e3 : k.hand with
        | none =>
          rw [e3] at h2
          simp only [Prod.mk.injEq] at h2
          exact .inl h2.2.1.symm
        | some y =>
          rw [e3] at h2
          simp only [Prod.mk.injEq] at h2
          exact .inr h2.2.1.symm
  · intro z a x h
    have h' : s.ms.2.2.2 = .word z a x := h
    unfold HS.ms mstep at h'
    cases e : s.prog[s.S.row.toNat]? with
    | none => rw [e] at h'; cases h'
    | some r =>
      rw [e] at h'
      cases e2 : r.word s.S.spent s.S.cells with
      | none => simp only [e2] at h'; cases h'
      | some y =>
        obtain ⟨y1, y2, y3⟩ := y
        simp only [e2] at h'
        split at h'
        · cases h'
        · cases h'
          exact word_ok e2
theorem log_lay (s : HS) (n : Nat) : ∀ e ∈ s.log n, PyData.canLay0 (dE e) = true := fun e he => by
  unfold HS.log at he
  obtain ⟨i, _, rfl⟩ := List.mem_map.mp he
  exact dE_lay (ent_ok _)
theorem shaped_log {es : List BeatE} (h : ∀ e ∈ es, PyData.canLay0 (dE e) = true) : SeqAt.shaped (.list (es.map dE)) = true := shaped_all (by decide) es h dE_deep
theorem shaped_tolds {ts : List (Int × Str × Int × Int)} (h : ∀ t ∈ ts, WdOk t.2.1) : SeqAt.shaped (.list (ts.map fun t => dT (some t))) = true :=
  shaped_all (n := 1) (by decide) ts (fun t ht => dT_lay (fun j z a x e => by cases e; exact h _ ht)) (fun t => dT_deep _)
def tv (t : Int × Str × Int × Int) : List V := [.int t.1, .str t.2.1, .int t.2.2.1, .int t.2.2.2]
theorem tolds_dp {K : PySem.W.Frag} {H : Hp} {D : Addr} {ps : List Addr} {ts : List (Int × Str × Int × Int)} (h : TupsAt H D ps (ts.map tv)) : Dp K H (.ref D) (.list (ts.map fun t => dT (some t))) := by
  refine .lst (SqL.of h.lst) (dpAll_of ps ts (by rw [h.len, List.length_map]) (fun j p e h1 h2 => ?_))
  have := h.at_ j p (tv e) h1 (by rw [List.getElem?_map, h2]; rfl)
  obtain ⟨j, z, a, x⟩ := e
  exact .tup (SqT.of this) (.cons (.int _) (.cons (.str _) (.cons (.int _) (.cons (.int _) .nil))))
theorem TupsAt.push {H : Hp} {D p : Addr} {ps : List Addr} {vss : List (List V)} {vs : List V} (t : TupsAt H D ps vss) (hp : H p = some (.tup vs)) : TupsAt (upd H D (.lst ((ps ++ [p]).map V.ref))) D (ps ++ [p]) (vss ++ [vs]) := by
  have nD : ∀ {q : Addr} {us : List V}, H q = some (.tup us) → upd H D (.lst ((ps ++ [p]).map V.ref)) q = some (.tup us) := fun {q us} hq => by
    have h1 : q ≠ D := ne_of hq t.lst (by intro z; cases z)
    rw [upd_ne h1]
    exact hq
  refine ⟨upd_same, by simp [t.len], fun j q us e1 e2 => ?_⟩
  by_cases hj : j < ps.length
  · rw [List.getElem?_append_left hj] at e1
    rw [List.getElem?_append_left (by rw [← t.len]; exact hj)] at e2
    exact nD (t.at_ j q us e1 e2)
  · have ej : j = ps.length := by
      have := (List.getElem?_eq_some_iff.mp e1).1
      rw [List.length_append] at this
      simp at this
      omega
    subst ej
    rw [List.getElem?_append_right (Nat.le_refl _), Nat.sub_self] at e1
    rw [List.getElem?_append_right (by rw [t.len]; exact Nat.le_refl _), t.len, Nat.sub_self] at e2
    have e5 : p = q := by simpa using e1
    have e6 : vs = us := by simpa using e2
    subst e5 e6
    exact nD hp
theorem cut_take {xs : List V} {n : Nat} : cutV xs none (some (n : Int)) = xs.take n := by
  unfold cutV
  rw [HT.sIx_nat]
  show (xs.drop 0).take (min n xs.length - 0) = _
  rw [List.drop_zero, Nat.sub_zero]
  by_cases h : n ≤ xs.length
  · rw [Nat.min_eq_left h]
  · rw [Nat.min_eq_right (by omega), List.take_of_length_le (Nat.le_refl _), List.take_of_length_le (by omega)]
theorem cut_mid {xs : List V} {a b : Nat} (h : a + b ≤ xs.length) : cutV xs (some (a : Int)) (some ((a + b : Nat) : Int)) = (xs.drop a).take b := by
  unfold cutV
  rw [HT.sIx_nat, HT.sIx_nat, Nat.min_eq_left h, Nat.min_eq_left (show a ≤ xs.length by omega)]
  congr 1
  omega
end SB

set_option Elab.async false
set_option linter.all false
set_option maxRecDepth 100000
set_option maxHeartbeats 2000000
namespace SB
open PySem L2
section
variable {P : Program} {w : World} {K : PySem.W.Frag} {mg : Str → Option Value} {base : Heap}
theorem DiceAt.ned {H : Hp} {d sl : Addr} {f p : Int} {cs : List Int} (D : DiceAt H d sl f p cs) {y : Addr} (hy : H y = none) : y ∉ [d, sl] := by
  have a1 : y ≠ d := ne_of_none' D.ob hy
  have a2 : y ≠ sl := ne_of_none' D.ls hy
  simp [a1, a2]
theorem pick2 {H : Hp} {d sl : Addr} {f p : Int} {cs : List Int} {x y : Int} {σ : L2.St} {i : Nat} {Q : VK} (hσ : σ[i]? = some (some (.ref d))) (D : DiceAt H d sl f p cs) (c63 : cs.length ≤ 63) (x0 : 0 < x) (x1 : x < 1073741824) (y0 : 0 < y) (y1 : y < 1073741824)
    (q : ∀ H' f' p' cs' v, DiceAt H' d sl f' p' cs' → cs'.length = cs.length → Kept [d, sl] H H' → 0 ≤ v → (v < x ∨ v < y) → Q (.int v) H') :
    tCallR (sp_l_off K) (tCons (tVar i) (tCons (tOp (rIxL K) (tLst (tCons (tC (.int x)) (tCons (tC (.int y)) tNil))) (tCallR (sp_l_off K) (tCons (tVar i) (tCons (tC (.int 2)) tNil)))) tNil)) σ H Q := by
  refine ⟨_, hσ, by show 2 ≤ sizeLine; decide, fun b hb => ?_⟩
  have s1 : Same H (upd H b (.lst [.int x, .int y])) := Same.new (Same.refl H) hb
  refine ⟨_, hσ, d, sl, f, p, cs, 2, rfl, D.same s1, c63, by decide, by decide, fun H2 f2 p2 cs2 v D2 c2 k2 v0 v1 => ?_⟩
  have kb : H2 b = some (.lst [.int x, .int y]) := k2 _ _ upd_same (D.ned hb)
  obtain ⟨m, hm, m0, m1, mx⟩ : ∃ m : Int, atI ([.int x, .int y] : List V) v = some (.int m) ∧ 0 < m ∧ m < 1073741824 ∧ (m = x ∨ m = y) := by
    have : v = 0 ∨ v = 1 := by omega
    rcases this with rfl | rfl
    · exact ⟨x, rfl, x0, x1, .inl rfl⟩
    · exact ⟨y, rfl, y0, y1, .inr rfl⟩
  refine ⟨_, _, _, _, rfl, rfl, SqL.of kb, hm, ?_⟩
  refine ⟨d, sl, f2, p2, cs2, m, rfl, D2, by omega, m0, m1, fun H3 f3 p3 cs3 n D3 c3 k3 n0 n1 => ?_⟩
  exact q H3 f3 p3 cs3 n D3 (by omega) (((Kept.same s1).trans k2).trans k3) n0 (by rcases mx with e | e <;> rw [← e] <;> first | exact .inl n1 | exact .inr n1)
def sp_l_work (K : PySem.W.Frag) : Sp := fun vs H Q _ => ∃ (d sl : Addr) (f p : Int) (cs : List Int) (many : Int), vs = [.ref d, .int many] ∧ DiceAt H d sl f p cs ∧ cs.length ≤ 63 ∧ 1 ≤ many ∧ many ≤ 6 ∧
  ∀ H' f' p' cs' t k, DiceAt H' d sl f' p' cs' → cs'.length = cs.length → Kept [d, sl] H H' → H t = none → H' t = some (.tup k.vs) → WOk many.toNat k → Q (.ref t) H'
theorem ok_l_work (T : T w K mg) : FnR P w K mg base CX0 2 (He.ga K "_law_work") (sp_l_work K) := by
  have F_l_off : FnR P w K mg base CX0 1 _ _ := ok_l_off T
  obtain ⟨fd, F⟩ := T.f_l_work
  refine F.r sc_l_work (fun _ _ _ _ _ _ us hl => match us, hl with | [_, _], _ => rfl) (fun vs H Q E h => ?_) (fun cdv A outer s H vs Q E hr h => ?_)
  · obtain ⟨_, _, _, _, _, _, rfl, _⟩ := h
    rfl
  · obtain ⟨d, sl, f, p, cs, many, rfl, D, c63, m1, m6, q⟩ := h
    refine ⟨_, (pss_cons (ps_par rfl sc_l_work.nd (i := 2) (j := 3) rfl rfl (by decide) rfl rfl (pa_cons (pe_callR F_l_off (hr.mono (by decide)) rfl T.g_l_off T.k_l_off (pa_cons (pv 0) (pa_cons pe_int pa_nil))) (pa_cons (pe_callR F_l_off (hr.mono (by decide)) rfl T.g_l_off T.k_l_off (pa_cons (pv 0) (pa_cons (pv 1) pa_nil))) pa_nil)) rfl)
  (pss_cons (ps_par rfl sc_l_work.nd (i := 4) (j := 5) rfl rfl (by decide) rfl rfl (pa_cons (pe_cmpR op_eq (pe_callR F_l_off (hr.mono (by decide)) rfl T.g_l_off T.k_l_off (pa_cons (pv 0) (pa_cons pe_int pa_nil))) pe_int (nomark _)) (pa_cons (pe_cmpR op_eq (pe_callR F_l_off (hr.mono (by decide)) rfl T.g_l_off T.k_l_off (pa_cons (pv 0) (pa_cons pe_int pa_nil))) pe_int (nomark _)) pa_nil)) rfl)
  (pss_cons (ps_set (i := 6) sc_l_work.nd rfl (Or.inl rfl) (pe_op op_add pe_int (pe_callR F_l_off (hr.mono (by decide)) rfl T.g_l_off T.k_l_off (pa_cons (pv 0) (pa_cons (pe_ix ix_list (pe_lst (pa_cons pe_int (pa_cons pe_int pa_nil))) (pe_callR F_l_off (hr.mono (by decide)) rfl T.g_l_off T.k_l_off (pa_cons (pv 0) (pa_cons pe_int pa_nil))) (fun _ _ => rfl)) pa_nil)))))
  (pss_cons (ps_set (i := 7) sc_l_work.nd rfl (Or.inl rfl) (pe_ix ix_list (pe_lst (pa_cons pe_str (pa_cons pe_str (pa_cons pe_str (pa_cons pe_str pa_nil))))) (pe_callR F_l_off (hr.mono (by decide)) rfl T.g_l_off T.k_l_off (pa_cons (pv 0) (pa_cons pe_int pa_nil))) (fun _ _ => rfl)))
  (pss_cons (ps_asg (pe_lc (own := [("_law_k", 10)]) (g := gName 10) (tt := tYes) (te := tCallR (sp_l_off K) (tCons (tVar 0) (tCons (tOp (rIxL K) (tLst (tCons (tC (.int 8)) (tCons (tC (.int 32)) tNil))) (tCallR (sp_l_off K) (tCons (tVar 0) (tCons (tC (.int 2)) tNil)))) tNil))) rfl sc_l_work.nd (pi_range1 rfl T.u_range (pa_cons pe_int pa_nil))
      (blkOk_by (N := ["_law_d", "_law_many", "_law_mark", "_law_follow", "_law_has_mark", "_law_has_next", "_law_size", "_law_greed", "_law_begin", "_law_goal", "_law_k"]) (sc := defScope s_l_work) (by decide +kernel)) (fun _ _ _ _ _ => pg_name (i := 10) sc_l_work.nd rfl (Or.inl rfl)) (fun _ _ _ _ _ => pts_nil)
      (fun _ _ _ _ _ => pe_callR F_l_off (hr.mono (by decide)) rfl T.g_l_off T.k_l_off (pa_cons (pv 0) (pa_cons (pe_ix ix_list (pe_lst (pa_cons pe_int (pa_cons pe_int pa_nil))) (pe_callR F_l_off (hr.mono (by decide)) rfl T.g_l_off T.k_l_off (pa_cons (pv 0) (pa_cons pe_int pa_nil))) (fun _ _ => rfl)) pa_nil))))
    (pg_lst rfl (pgs_cons (pg_name (i := 8) sc_l_work.nd rfl (Or.inl rfl)) (pgs_cons (pg_name (i := 9) sc_l_work.nd rfl (Or.inl rfl)) pgs_nil))))
  (pss_one (ps_ret (pe_tup (pa_cons (pv 8) (pa_cons (pv 9) (pa_cons (pv 6) (pa_cons (pe_op op_add pe_int (pe_callR F_l_off (hr.mono (by decide)) rfl T.g_l_off T.k_l_off (pa_cons (pv 0) (pa_cons pe_int pa_nil)))) (pa_cons (pv 7) (pa_cons (pe_ifExp (pt_val (pv 4)) (pv 2) pe_non) (pa_cons (pe_ifExp (pt_val (pv 5)) (pv 3) pe_non) pa_nil))))))))))))))), ?_⟩
    refine ⟨_, rfl, d, sl, f, p, cs, 3, rfl, D, c63, by decide, by decide, fun H1 f1 p1 cs1 mk D1 c1 k1 mk0 mk1 => ?_⟩
    refine ⟨_, rfl, _, rfl, d, sl, f1, p1, cs1, many, rfl, D1, by omega, by omega, by omega, fun H2 f2 p2 cs2 fo D2 c2 k2 fo0 fo1 => ?_⟩
    refine ⟨_, _, rfl, ?_⟩
    refine ⟨_, rfl, d, sl, f2, p2, cs2, 2, rfl, D2, by omega, by decide, by decide, fun H3 f3 p3 cs3 hm0 D3 c3 k3 _ _ => ?_⟩
    refine ⟨rfl, ?_⟩
    refine ⟨_, rfl, d, sl, f3, p3, cs3, 3, rfl, D3, by omega, by decide, by decide, fun H4 f4 p4 cs4 hn0 D4 c4 k4 _ _ => ?_⟩
    refine ⟨rfl, ?_⟩
    refine ⟨_, _, rfl, ?_⟩
    generalize decide (V.int hm0 = V.int 0) = hm
    generalize decide (V.int hn0 = V.int 0) = hn
    have kk4 := ((k1.trans k2).trans k3).trans k4
    refine pick2 (i := 0) rfl D4 (by omega) (by decide) (by decide) (by decide) (by decide) (fun H5 f5 p5 cs5 sz D5 c5 k5 sz0 sz1 => ?_)
    refine ⟨_, _, rfl, rfl, ?_⟩
    refine ⟨by show 4 ≤ sizeLine; decide, fun e he => ?_⟩
    have s6 : Same H5 (upd H5 e (.lst [.str "all", .str "turn", .str "idle", .str "turn"])) := Same.new (Same.refl _) he
    have e6 : upd H5 e (.lst [.str "all", .str "turn", .str "idle", .str "turn"]) e = some (.lst [.str "all", .str "turn", .str "idle", .str "turn"]) := upd_same
    have ne := D5.ned he
    have D6 := D5.same s6
    generalize upd H5 e (.lst [.str "all", .str "turn", .str "idle", .str "turn"]) = H6 at s6 e6 D6
    refine ⟨_, rfl, d, sl, f5, p5, cs5, 4, rfl, D6, by omega, by decide, by decide, fun H7 f7 p7 cs7 g0 D7 c7 k7 g00 g01 => ?_⟩
    obtain ⟨gr, hgr, grok⟩ : ∃ gr : Str, atI ([.str "all", .str "turn", .str "idle", .str "turn"] : List V) g0 = some (.str gr) ∧ (gr = "all" ∨ gr = "turn" ∨ gr = "idle") := by
      have : g0 = 0 ∨ g0 = 1 ∨ g0 = 2 ∨ g0 = 3 := by omega
      rcases this with rfl | rfl | rfl | rfl
      · exact ⟨_, rfl, .inl rfl⟩
      · exact ⟨_, rfl, .inr (.inl rfl)⟩
      · exact ⟨_, rfl, .inr (.inr rfl)⟩
      · exact ⟨_, rfl, .inr (.inl rfl)⟩
    refine ⟨_, _, _, _, rfl, rfl, SqL.of (k7 _ _ e6 ne), hgr, ?_⟩
    have kk7 : Kept [d, sl] H H7 := ((kk4.trans k5).trans (Kept.same s6)).trans k7
    refine ⟨2, rfl, by decide, by decide, fun R hR => ?_⟩
    have nR := D7.ned hR
    have hR0 : H R = none := kk7.free hR nR
    have sR : Same H7 (upd H7 R (.lst [])) := Same.new (Same.refl _) hR
    refine lc_it walk_range (fun i H4 => ∃ (f4 p4 : Int) (cs4 ws : List Int), DiceAt H4 d sl f4 p4 cs4 ∧ cs4.length = cs.length ∧ Kept [d, sl] H H4 ∧ H4 R = some (.lst (ws.map V.int)) ∧ ws.length = i ∧ ∀ x ∈ ws, rg 0 31 x)
      ⟨f7, p7, cs7, [], D7.same sR, by omega, kk7.new hR0, upd_same, rfl, by simp⟩ (fun i H4 _ _ => trivial) ?_ ?_
    · rintro i x H8 H9 hi ⟨f4, p4, cs4, ws, D8, c8, k8, hR4, hl, hx⟩ ⟨rfl, rfl⟩
      refine ⟨rfl, yes ?_⟩
      refine pick2 (i := 0) rfl D8 (by omega) (by decide) (by decide) (by decide) (by decide) (fun H10 f10 p10 cs10 v D10 c10 k10 v0 v1 => ?_)
      have hR6 := k10 _ _ hR4 nR
      have Rd : R ≠ d := fun z => nR (by simp [z])
      have Rs : R ≠ sl := fun z => nR (by simp [z])
      refine ⟨_, hR6, by rw [List.length_map, hl]; exact Nat.lt_of_lt_of_le hi (by decide), f10, p10, cs10, ws ++ [v], ?_, by omega, (k8.trans k10).new hR0, ?_, by simp [hl], ?_⟩
      · exact ⟨by rw [upd_ne (Ne.symm Rd)]; exact D10.ob, by rw [upd_ne (Ne.symm Rs)]; exact D10.ls, D10.f0, D10.f1, D10.p0, D10.ne⟩
      · rw [upd_same, List.map_append]
        rfl
      · intro y hy
        rcases List.mem_append.mp hy with hy | hy
        · exact hx y hy
        · have e : y = v := by simpa using hy
          rw [e]
          exact ⟨v0, by rcases v1 with z | z <;> omega⟩
    · rintro H8 ⟨f8, p8, cs8, ws, D8, c8, k8, hR8, hl, hx⟩
      obtain ⟨b, g, rfl⟩ : ∃ b g, ws = [b, g] := match ws, hl with | [b, g], _ => ⟨b, g, rfl⟩
      refine ⟨R, _, rfl, SqL.of hR8, rfl, _, _, rfl, _, _, rfl, rfl, ?_⟩
      refine ⟨_, rfl, _, rfl, _, rfl, ?_⟩
      refine ⟨_, rfl, d, sl, f8, p8, cs8, 4, rfl, D8, by omega, by decide, by decide, fun H9 f9 p9 cs9 c0 D9 c9 k9 c00 c01 => ?_⟩
      refine ⟨_, _, rfl, rfl, ?_⟩
      refine ⟨_, rfl, ?_⟩
      have fin : ∀ (mk' fo' : Option Int), (∀ x, mk' = some x → rg 0 2 x) → (∀ x, fo' = some x → 0 ≤ x ∧ x < many) → ∀ t, H9 t = none → Q (.ref t) (upd H9 t (.tup [.int b, .int g, .int (1 + sz), .int (1 + c0), .str gr, oV mk', oV fo'])) := by
        intro mk' fo' hmk hfo t ht
        have kk9 := k8.trans k9
        have ht0 : H t = none := kk9.free ht (D9.ned ht)
        have st : Same H9 (upd H9 t (.tup [.int b, .int g, .int (1 + sz), .int (1 + c0), .str gr, oV mk', oV fo'])) := Same.new (Same.refl _) ht
        refine q _ f9 p9 cs9 t ⟨b, g, 1 + sz, 1 + c0, gr, mk', fo', false, 0, none⟩ (D9.same st) (by omega) (kk9.trans (Kept.same st)) ht0 upd_same ⟨hx b (by simp), hx g (by simp), ⟨by show 1 ≤ 1 + sz; omega, by show 1 + sz ≤ 16; rcases sz1 with z | z <;> omega⟩, ⟨by show 1 ≤ 1 + c0; omega, by show 1 + c0 ≤ 4; omega⟩, grok, hmk, fun x hx => ?_⟩
        have := hfo x hx
        exact ⟨this.1, by omega⟩
      have m2 : ∀ x, some mk = some x → rg 0 2 x := fun x hx => by cases hx; exact ⟨mk0, by omega⟩
      have f2' : ∀ x, some fo = some x → 0 ≤ x ∧ x < many := fun x hx => by cases hx; exact ⟨fo0, fo1⟩
      refine ⟨_, rfl, _, rfl, ?_⟩
      refine ite2 (fun a1 => ?_) (fun a1 => ?_)
      · refine ⟨_, rfl, _, rfl, _, rfl, ?_⟩
        refine ite2 (fun a2 => ?_) (fun a2 => ?_)
        · exact ⟨_, rfl, by show 7 ≤ sizeLine; decide, fun t ht => fin (some mk) (some fo) m2 f2' t ht⟩
        · exact ⟨by show 7 ≤ sizeLine; decide, fun t ht => fin (some mk) none m2 (fun x hx => nomatch hx) t ht⟩
      · refine ⟨_, rfl, _, rfl, ?_⟩
        refine ite2 (fun a2 => ?_) (fun a2 => ?_)
        · exact ⟨_, rfl, by show 7 ≤ sizeLine; decide, fun t ht => fin none (some fo) (fun x hx => nomatch hx) f2' t ht⟩
        · exact ⟨by show 7 ≤ sizeLine; decide, fun t ht => fin none none (fun x hx => nomatch hx) (fun x hx => nomatch hx) t ht⟩
end
end SB

set_option Elab.async false
set_option linter.all false
set_option maxRecDepth 100000
set_option maxHeartbeats 2000000
namespace SB
open PySem L2
def av (a : Int × Int) : List V := [.int a.1, .int a.2]
theorem sort_next : ∀ {ns : List Int}, ns.Pairwise (· ≤ ·) → ∀ (i : Nat) (x y : Int), ns[i]? = some x → ns[i + 1]? = some y → x ≤ y
  | [], _, i, x, y, h, _ => by simp at h
  | a :: r, hp, 0, x, y, h1, h2 => by
    have e : a = x := by simpa using h1
    have h2' : r[0]? = some y := by simpa using h2
    rw [← e]
    exact (List.pairwise_cons.mp hp).1 y (List.mem_of_getElem? h2')
  | a :: r, hp, i + 1, x, y, h1, h2 => sort_next (List.pairwise_cons.mp hp).2 i x y (by simpa using h1) (by simpa using h2)
section
variable {P : Program} {w : World} {K : PySem.W.Frag} {mg : Str → Option Value} {base : Heap}
def sp_l_asked (K : PySem.W.Frag) : Sp := fun vs H Q _ => ∃ (d sl : Addr) (f p : Int) (cs : List Int) (many : Int), vs = [.ref d, .int many] ∧ DiceAt H d sl f p cs ∧ cs.length ≤ 63 ∧ 0 ≤ many ∧ many ≤ 6 ∧
  ∀ (H' : Hp) (f' p' : Int) (cs' : List Int) (al : Addr) (qs : List Addr) (as : List (Int × Int)), DiceAt H' d sl f' p' cs' → cs'.length = cs.length → Kept [d, sl] H H' → H al = none → TupsAt H' al qs (as.map av) → AOk many.toNat as → Q (.ref al) H'
theorem ok_l_asked (T : T w K mg) : FnR P w K mg base CX0 2 (He.ga K "_law_asked") (sp_l_asked K) := by
  have F_l_off : FnR P w K mg base CX0 1 _ _ := ok_l_off T
  obtain ⟨fd, F⟩ := T.f_l_asked
  refine F.r sc_l_asked (fun _ _ _ _ _ _ us hl => match us, hl with | [_, _], _ => rfl) (fun vs H Q E h => ?_) (fun cdv A outer s H vs Q E hr h => ?_)
  · obtain ⟨_, _, _, _, _, _, rfl, _⟩ := h
    rfl
  · obtain ⟨d, sl, f, p, cs, many, rfl, D, c63, m0, m6, q⟩ := h
    refine ⟨_, (pss_cons (ps_set (i := 2) sc_l_asked.nd rfl (Or.inl rfl) (pe_callB cr_sorted rfl T.u_sorted (by decide +kernel) (pa_cons (pe_lc (own := [("_law_k", 3)]) (g := gName 3) (tt := tYes)
        (te := tCallR (sp_l_off K) (tCons (tVar 0) (tCons (tOp (rIxL K) (tLst (tCons (tC (.int 20)) (tCons (tC (.int 201)) tNil))) (tCallR (sp_l_off K) (tCons (tVar 0) (tCons (tC (.int 2)) tNil)))) tNil))) rfl sc_l_asked.nd
        (pi_range1 rfl T.u_range (pa_cons (pe_op op_mul (pe_callR F_l_off (hr.mono (by decide)) rfl T.g_l_off T.k_l_off (pa_cons (pv 0) (pa_cons pe_int pa_nil))) (pe_callTy call_int1 rfl T.u_int (by decide +kernel) (pa_cons (pe_cmpR op_gt (pv 1) pe_int (nomark _)) pa_nil))) pa_nil))
        (blkOk_by (N := ["_law_d", "_law_many", "_law_beats", "_law_k", "_law_beat"]) (sc := defScope s_l_asked) (by decide +kernel)) (fun _ _ _ _ _ => pg_name (i := 3) sc_l_asked.nd rfl (Or.inl rfl)) (fun _ _ _ _ _ => pts_nil)
        (fun _ _ _ _ _ => pe_callR F_l_off (hr.mono (by decide)) rfl T.g_l_off T.k_l_off (pa_cons (pv 0) (pa_cons (pe_ix ix_list (pe_lst (pa_cons pe_int (pa_cons pe_int pa_nil))) (pe_callR F_l_off (hr.mono (by decide)) rfl T.g_l_off T.k_l_off (pa_cons (pv 0) (pa_cons pe_int pa_nil))) (fun _ _ => rfl)) pa_nil)))) pa_nil)))
      (pss_one (ps_ret (pe_lc (own := [("_law_beat", 4)]) (g := gName 4) (tt := tYes) (te := tTup (tCons (tVar 4) (tCons (tCallR (sp_l_off K) (tCons (tVar 0) (tCons (tVar 1) tNil))) tNil))) rfl sc_l_asked.nd (pi_list (pv 2))
        (blkOk_by (N := ["_law_d", "_law_many", "_law_beats", "_law_k", "_law_beat"]) (sc := defScope s_l_asked) (by decide +kernel)) (fun _ _ _ _ _ => pg_name (i := 4) sc_l_asked.nd rfl (Or.inl rfl)) (fun _ _ _ _ _ => pts_nil)
        (fun _ _ _ _ _ => pe_tup (pa_cons (pv 4) (pa_cons (pe_callR F_l_off (hr.mono (by decide)) rfl T.g_l_off T.k_l_off (pa_cons (pv 0) (pa_cons (pv 1) pa_nil))) pa_nil))))))), ?_⟩
    refine ⟨_, rfl, d, sl, f, p, cs, 9, rfl, D, c63, by decide, by decide, fun H1 f1 p1 cs1 n D1 c1 k1 n0 n1 => ?_⟩
    refine ⟨_, rfl, _, _, rfl, rfl, .inr ⟨_, rfl, ?_⟩⟩
    refine ⟨_, _, rfl, rfl, .inl ⟨by omega, by omega⟩, ?_⟩
    dsimp only
    obtain ⟨N, hN, N0, N8, Nz⟩ : ∃ N : Int, n * (if decide (0 < many) = true then 1 else 0) = N ∧ 0 ≤ N ∧ N ≤ 8 ∧ (many = 0 → N = 0) := by
      by_cases g : 0 < many
      · exact ⟨n, by rw [decide_eq_true g, if_pos rfl, Int.mul_one], n0, by omega, fun z => by omega⟩
      · exact ⟨0, by rw [decide_eq_false g, if_neg (by decide), Int.mul_zero], by decide, by decide, fun _ => rfl⟩
    rw [hN]
    refine ⟨N, rfl, by omega, by omega, fun R hR => ?_⟩
    have nR := D1.ned hR
    have hR0 : H R = none := k1.free hR nR
    have Rd : R ≠ d := fun z => nR (by simp [z])
    have Rs : R ≠ sl := fun z => nR (by simp [z])
    have sR : Same H1 (upd H1 R (.lst [])) := Same.new (Same.refl _) hR
    refine lc_it walk_range (fun i H4 => ∃ (f4 p4 : Int) (cs4 ws : List Int), DiceAt H4 d sl f4 p4 cs4 ∧ cs4.length = cs.length ∧ Kept [d, sl] H H4 ∧ H4 R = some (.lst (ws.map V.int)) ∧ ws.length = i ∧ ∀ x ∈ ws, rg 0 200 x)
      ⟨f1, p1, cs1, [], D1.same sR, by omega, k1.new hR0, upd_same, rfl, by simp⟩ (fun i H4 _ _ => trivial) ?_ ?_
    · rintro i x H8 H9 hi ⟨f4, p4, cs4, ws, D8, c8, k8, hR4, hl, hx⟩ ⟨rfl, rfl⟩
      refine ⟨rfl, yes ?_⟩
      refine pick2 (i := 0) rfl D8 (by omega) (by decide) (by decide) (by decide) (by decide) (fun H10 f10 p10 cs10 v D10 c10 k10 v0 v1 => ?_)
      have hR6 := k10 _ _ hR4 nR
      refine ⟨_, hR6, by rw [List.length_map, hl]; exact Nat.lt_of_lt_of_le hi (Nat.le_trans (show N.toNat ≤ 100 by omega) (by decide)), f10, p10, cs10, ws ++ [v], ?_, by omega, (k8.trans k10).new hR0, ?_, by simp [hl], ?_⟩
      · exact ⟨by rw [upd_ne (Ne.symm Rd)]; exact D10.ob, by rw [upd_ne (Ne.symm Rs)]; exact D10.ls, D10.f0, D10.f1, D10.p0, D10.ne⟩
      · rw [upd_same, List.map_append]
        rfl
      · intro y hy
        rcases List.mem_append.mp hy with hy | hy
        · exact hx y hy
        · have e : y = v := by simpa using hy
          rw [e]
          exact ⟨v0, by rcases v1 with z | z <;> omega⟩
    · rintro H8 ⟨f8, p8, cs8, ws, D8, c8, k8, hR8, hl, hx⟩
      refine ⟨R, ws, rfl, SqL.of hR8, by omega, fun ns' b hperm hsort hb => ?_⟩
      have hnl : ns'.length = N.toNat := by rw [hperm.length_eq, hl]
      have hnx : ∀ x ∈ ns', rg 0 200 x := fun x h => hx x (hperm.mem_iff.mp h)
      have s9 : Same H8 (upd H8 b (.lst (ns'.map V.int))) := Same.new (Same.refl _) hb
      have e9 : upd H8 b (.lst (ns'.map V.int)) b = some (.lst (ns'.map V.int)) := upd_same
      have nb := D8.ned hb
      have D9 := D8.same s9
      generalize upd H8 b (.lst (ns'.map V.int)) = H9 at s9 e9 D9
      have k9 : Kept [d, sl] H H9 := k8.trans (Kept.same s9)
      refine ⟨_, rfl, b, rfl, ⟨_, SqL.of e9⟩, fun R2 hR2 => lc_list (K := K) (a := b) (xs := ns'.map V.int) (fun i H4 => ∃ (f4 p4 : Int) (cs4 : List Int) (qs : List Addr) (as : List (Int × Int)), DiceAt H4 d sl f4 p4 cs4 ∧ cs4.length = cs.length ∧ Kept [d, sl] H H4 ∧ H4 b = some (.lst (ns'.map V.int)) ∧ TupsAt H4 R2 qs (as.map av) ∧ as.map (·.1) = ns'.take i ∧ ∀ a ∈ as, rg 0 200 a.1 ∧ 0 ≤ a.2 ∧ a.2 < many)
        ⟨f8, p8, cs8, [], [], D9.same (Same.new (Same.refl _) hR2), by omega, k9.new (k9.free hR2 (D9.ned hR2)), by rw [upd_ne (ne_of_none e9 hR2)]; exact e9, ⟨upd_same, rfl, fun j p vs e => by simp at e⟩, by simp, by simp⟩ (fun i H4 _ ⟨_, _, _, _, _, _, _, _, hb4, _⟩ => SqL.of hb4) ?_ ?_⟩
      · rintro i x H4 hx' ⟨f4, p4, cs4, qs, as, D4, c4, k4, hb4, tp, ea, ha⟩
        have nR2 := D9.ned hR2
        have R2d : R2 ≠ d := fun z => nR2 (by simp [z])
        have R2s : R2 ≠ sl := fun z => nR2 (by simp [z])
        have R2b : R2 ≠ b := ne_of_none' e9 hR2
        have hR20 : H R2 = none := k9.free hR2 nR2
        rw [List.getElem?_map] at hx'
        cases hy : ns'[i]? with
        | none => rw [hy] at hx'; cases hx'
        | some y =>
          rw [hy] at hx'
          cases hx'
          have hmy := List.mem_of_getElem? hy
          have hNpos : 0 < ns'.length := by
            have := (List.getElem?_eq_some_iff.mp hy).1
            omega
          have mpos : 0 < many := by
            by_cases z : many = 0
            · have := Nz z
              omega
            · omega
          refine ⟨rfl, yes ?_⟩
          refine ⟨_, rfl, _, rfl, _, rfl, d, sl, f4, p4, cs4, many, rfl, D4, by omega, mpos, by omega, fun H6 f6 p6 cs6 v D6 c6 k6 v0 v1 => ?_⟩
          refine ⟨by show 2 ≤ sizeLine; decide, fun t ht => ?_⟩
          have tk : Tk H4 H6 := Tk.of k6 (fun b hb => by
            have e : b = d ∨ b = sl := by simpa using hb
            rcases e with rfl | rfl
            · exact ⟨_, D4.ob, rfl⟩
            · exact ⟨_, D4.ls, rfl⟩)
          have hR6 := k6 _ _ tp.lst nR2
          have tp6 : TupsAt H6 R2 qs (as.map av) := ⟨hR6, tp.len, fun j y vs e1 e2 => tk _ _ (tp.at_ j y vs e1 e2)⟩
          have st : Same H6 (upd H6 t (.tup [.int y, .int v])) := Same.new (Same.refl _) ht
          have kk6 := k4.trans k6
          have nt := D6.ned ht
          have ht0 : H t = none := kk6.free ht nt
          have hb6 := k6 _ _ hb4 nb
          refine ⟨_, st _ _ hR6, ?_, f6, p6, cs6, qs ++ [t], as ++ [(y, v)], ?_, by omega, (kk6.new ht0).new hR20, ?_, ?_, ?_, ?_⟩
          · rw [List.length_map, tp.len, List.length_map]
            have := congrArg List.length ea
            rw [List.length_map, List.length_take] at this
            exact Nat.lt_of_le_of_lt (show as.length ≤ 100 by omega) (by decide)
          · have D7 := D6.same st
            exact ⟨by rw [upd_ne (Ne.symm R2d)]; exact D7.ob, by rw [upd_ne (Ne.symm R2s)]; exact D7.ls, D6.f0, D6.f1, D6.p0, D6.ne⟩
          · rw [upd_ne (Ne.symm R2b)]
            exact st _ _ hb6
          · have := tp6.snoc (vs := av (y, v)) ht
            rw [List.map_append (l₁ := qs)] at this
            rw [List.map_append (l₁ := as)]
            exact this
          · rw [List.map_append, ea, List.take_add_one, hy]
            rfl
          · intro z hz
            rcases List.mem_append.mp hz with hz | hz
            · exact ha z hz
            · have e : z = (y, v) := by simpa using hz
              rw [e]
              exact ⟨hnx y hmy, v0, v1⟩
      · rintro H4 ⟨f4, p4, cs4, qs, as, D4, c4, k4, hb4, tp, ea, ha⟩
        rw [List.length_map, List.take_length] at ea
        have el := congrArg List.length ea
        rw [List.length_map] at el
        refine q _ f4 p4 cs4 R2 qs as D4 c4 k4 (k9.free hR2 (D9.ned hR2)) tp ⟨by omega, fun z hz => ?_, fun i x y h1 h2 => ?_⟩
        · have := ha z hz
          exact ⟨this.1, this.2.1, by omega⟩
        · refine sort_next hsort i x.1 y.1 ?_ ?_
          · rw [← ea, List.getElem?_map, h1]
            rfl
          · rw [← ea, List.getElem?_map, h2]
            rfl
end
end SB

set_option Elab.async false
set_option linter.all false
set_option maxRecDepth 100000
set_option maxHeartbeats 4000000
namespace SB
open PySem L2
inductive Kd where
  | set | add | less | get | getx | put | putx | pair | lay | ask | done | mark | clear | rest | iff | go | fin
abbrev Kd.str : Kd → Str
  | .set => "set" | .add => "add" | .less => "less" | .get => "get" | .getx => "getx" | .put => "put" | .putx => "putx" | .pair => "pair" | .lay => "lay" | .ask => "ask" | .done => "done" | .mark => "mark"
  | .clear => "clear" | .rest => "rest" | .iff => "if" | .go => "go" | .fin => "end"
abbrev Kd.v (k : Kd) : V := .str k.str
abbrev L14 : List Kd := [.set, .add, .less, .get, .getx, .put, .putx, .pair, .pair, .lay, .ask, .ask, .done, .mark]
abbrev L8 : List Kd := [.clear, .rest, .get, .put, .set, .iff, .go, .iff]
def Lk (st : Bool) : List Kd := L14 ++ L8.take (if st = true then 5 else 8)
theorem Lk_len (st : Bool) : (Lk st).length = if st = true then 19 else 22 := by cases st <;> rfl
theorem Lk_st : ∀ k ∈ Lk true, k ≠ .go ∧ k ≠ .iff := fun k hk => by
  have h : k ∈ ([.set, .add, .less, .get, .getx, .put, .putx, .pair, .pair, .lay, .ask, .ask, .done, .mark, .clear, .rest, .get, .put, .set] : List Kd) := hk
  simp only [List.mem_cons, List.not_mem_nil, or_false] at h
  rcases h with h | h | h | h | h | h | h | h | h | h | h | h | h | h | h | h | h | h | h <;> rw [h] <;> exact ⟨Kd.noConfusion, Kd.noConfusion⟩
theorem ecut (st : Bool) : cutV (L8.map Kd.v) none (some (8 - 3 * (if st = true then 1 else 0))) = (L8.take (if st = true then 5 else 8)).map Kd.v := by
  have e : (8 - 3 * (if st = true then 1 else 0) : Int) = ((if st = true then 5 else 8 : Nat) : Int) := by cases st <;> rfl
  rw [e, cut_take, List.map_take]
section
variable {P : Program} {w : World} {K : PySem.W.Frag} {mg : Str → Option Value} {base : Heap}
def StD (H : Hp) (d sl : Addr) (n : Nat) (Hx : Hp) : Prop := ∃ f p cs, DiceAt Hx d sl f p cs ∧ cs.length = n ∧ Kept [d, sl] H Hx
theorem StD.new {H Hx : Hp} {d sl t : Addr} {n : Nat} {o : HO} (h : StD H d sl n Hx) (ht : Hx t = none) : StD H d sl n (upd Hx t o) := by
  obtain ⟨f, p, cs, D, c, k⟩ := h
  have s : Same Hx (upd Hx t o) := Same.new (Same.refl _) ht
  exact ⟨f, p, cs, D.same s, c, k.trans (Kept.same s)⟩
theorem StD.free {H Hx : Hp} {d sl t : Addr} {n : Nat} (h : StD H d sl n Hx) (ht : Hx t = none) : H t = none := by
  obtain ⟨f, p, cs, D, c, k⟩ := h
  exact k.free ht (D.ned ht)
theorem StD.off {H Hx : Hp} {d sl : Addr} {n : Nat} {σ : L2.St} {i : Nat} {ta : TE} {m : Int} {Q : VK} (h : StD H d sl n Hx) (n63 : n ≤ 63) (hσ : σ[i]? = some (some (.ref d))) (ha : ∀ Q2 : VK, Q2 (.int m) Hx → ta σ Hx Q2) (m0 : 0 < m) (m1 : m < 1073741824)
    (q : ∀ Hy v, StD H d sl n Hy → Kept [d, sl] Hx Hy → 0 ≤ v → v < m → Q (.int v) Hy) : tCallR (sp_l_off K) (tCons (tVar i) (tCons ta tNil)) σ Hx Q := by
  obtain ⟨f, p, cs, D, c, k⟩ := h
  refine ⟨_, hσ, ha _ ?_⟩
  exact ⟨d, sl, f, p, cs, m, rfl, D, by omega, m0, m1, fun H2 f2 p2 cs2 v D2 c2 k2 v0 v1 => q H2 v ⟨f2, p2, cs2, D2, by omega, k.trans k2⟩ k2 v0 v1⟩
theorem t_in {σ : L2.St} {H : Hp} {z : Str} {ys : List V} {ta : TA} {Q : Bool → Hp → Prop} (b : Bool) (hσ : σ[4]? = some (some (.str z))) (ha : ∀ Q2 : List V → Hp → Prop, ta σ H Q2 = Q2 ys H) (hl : ys.length ≤ sizeLine) (hf : ys.all flatV = true) (hb : inV (.str z) ys = b)
    (q : ∀ t, H t = none → Q b (upd H t (.tup ys))) : tTest (tOp (rIn K false) (tVar 4) (tTup ta)) σ H Q := by
  refine ⟨_, hσ, ?_⟩
  show ta σ H _
  rw [ha]
  refine ⟨hl, fun t ht => ⟨t, ys, rfl, .inr (SqT.of upd_same), rfl, hf, _, rfl, ?_⟩⟩
  show Q (inV (.str z) ys) _
  rw [hb]
  exact q t ht
theorem StD.tk {H Hx Hy : Hp} {d sl : Addr} {n : Nat} (h : StD H d sl n Hx) (k : Kept [d, sl] Hx Hy) : Tk Hx Hy := by
  obtain ⟨f, p, cs, D, c, _⟩ := h
  refine Tk.of k (fun b hb => ?_)
  have e : b = d ∨ b = sl := by simpa using hb
  rcases e with rfl | rfl
  · exact ⟨_, D.ob, rfl⟩
  · exact ⟨_, D.ls, rfl⟩
theorem StD.nin {H Hx : Hp} {d sl : Addr} {n : Nat} (h : StD H d sl n Hx) {y : Addr} (hy : Hx y = none) : y ∉ [d, sl] := by
  obtain ⟨f, p, cs, D, c, _⟩ := h
  exact D.ned hy
theorem StD.pick {H Hx : Hp} {d sl : Addr} {n : Nat} {σ : L2.St} {i : Nat} {x y : Int} {Q : VK} (h : StD H d sl n Hx) (n63 : n ≤ 63) (hσ : σ[i]? = some (some (.ref d))) (x0 : 0 < x) (x1 : x < 1073741824) (y0 : 0 < y) (y1 : y < 1073741824)
    (q : ∀ Hy v, StD H d sl n Hy → Kept [d, sl] Hx Hy → 0 ≤ v → (v < x ∨ v < y) → Q (.int v) Hy) :
    tCallR (sp_l_off K) (tCons (tVar i) (tCons (tOp (rIxL K) (tLst (tCons (tC (.int x)) (tCons (tC (.int y)) tNil))) (tCallR (sp_l_off K) (tCons (tVar i) (tCons (tC (.int 2)) tNil)))) tNil)) σ Hx Q := by
  obtain ⟨f, p, cs, D, c, k⟩ := h
  exact pick2 hσ D (by omega) x0 x1 y0 y1 (fun H2 f2 p2 cs2 v D2 c2 k2 v0 v1 => q H2 v ⟨f2, p2, cs2, D2, by omega, k.trans k2⟩ k2 v0 v1)
theorem Tk.put1 {Hx Hy : Hp} {p : Addr} {o : HO} (k : Kept [p] Hx Hy) (h : Hx p = some o) (nt : notTup o = true) : Tk Hx Hy := Tk.of k (fun b hb => by
  have e : b = p := by simpa using hb
  rw [e]
  exact ⟨_, h, nt⟩)
theorem StD.putP {H Hx Hy : Hp} {d sl p : Addr} {n : Nat} (h : StD H d sl n Hx) (k : Kept [p] Hx Hy) (np : p ∉ [d, sl]) (hp : H p = none) : StD H d sl n Hy := by
  obtain ⟨f, q, cs, D, c, k0⟩ := h
  have pd : p ≠ d := fun z => np (by simp [z])
  have ps : p ≠ sl := fun z => np (by simp [z])
  refine ⟨f, q, cs, ⟨k _ _ D.ob (by simpa using Ne.symm pd), k _ _ D.ls (by simpa using Ne.symm ps), D.f0, D.f1, D.p0, D.ne⟩, c, fun b o e hb => k _ _ (k0 b o e hb) ?_⟩
  simpa using ne_of_none e hp
def sp_l_row (K : PySem.W.Frag) : Sp := fun vs H Q _ => ∃ (d sl : Addr) (f p : Int) (cs : List Int) (many : Int) (st : Bool), vs = [.ref d, .int many, .bl st] ∧ DiceAt H d sl f p cs ∧ cs.length ≤ 63 ∧ 1 ≤ many ∧ many ≤ 40 ∧
  ∀ (H' : Hp) (f' p' : Int) (cs' : List Int) (t : Addr) (r : Row), DiceAt H' d sl f' p' cs' → cs'.length = cs.length → Kept [d, sl] H H' → H t = none → H' t = some (.tup r.vs) → r.ok many.toNat → (st = true → (∀ x, r ≠ .go x) ∧ ∀ x y, r ≠ .iff x y) → Q (.ref t) H'
theorem ok_l_row (T : T w K mg) : FnR P w K mg base CX0 2 (He.ga K "_law_row") (sp_l_row K) := by
  have F_l_off : FnR P w K mg base CX0 1 _ _ := ok_l_off T
  obtain ⟨fd, F⟩ := T.f_l_row
  refine F.r sc_l_row (fun _ _ _ _ _ _ us hl => match us, hl with | [_, _, _], _ => rfl) (fun vs H Q E h => ?_) (fun cdv A outer s H vs Q E hr h => ?_)
  · obtain ⟨_, _, _, _, _, _, _, rfl, _⟩ := h
    rfl
  · obtain ⟨d, sl, f, p, cs, many, st, rfl, D, c63, m1, m40, q⟩ := h
    have hu := hr.units
    have hu1 : (A.deeper (PyProof.Rows.envOfC "_law_row" (defScope s_l_row) s.heap.objs.size (He.ga K "_law_row") cdv)).units + 1 < cLine := by omega
    refine ⟨_, (pss_cons (ps_set (i := 3) sc_l_row.nd rfl (Or.inl rfl) (pe_lst (pa_cons pe_str (pa_cons pe_str (pa_cons pe_str (pa_cons pe_str (pa_cons pe_str (pa_cons pe_str (pa_cons pe_str (pa_cons pe_str (pa_cons pe_str (pa_cons pe_str (pa_cons pe_str (pa_cons pe_str (pa_cons pe_str (pa_cons pe_str pa_nil))))))))))))))))
      (pss_cons (ps_set (i := 3) sc_l_row.nd rfl (Or.inl rfl) (pe_op op_cat (pv 3) (pe_slice sl_list (pe_lst (pa_cons pe_str (pa_cons pe_str (pa_cons pe_str (pa_cons pe_str (pa_cons pe_str (pa_cons pe_str (pa_cons pe_str (pa_cons pe_str pa_nil))))))))) po_none (po_some (pe_op op_sub pe_int (pe_op op_mul pe_int (pe_callTy call_int1 rfl T.u_int (by decide +kernel) (pa_cons (pv 2) pa_nil))))))))
      (pss_cons (ps_set (i := 4) sc_l_row.nd rfl (Or.inl rfl) (pe_ifExp (pt_cmpR op_gt (pe_callR F_l_off (hr.mono (by decide)) rfl T.g_l_off T.k_l_off (pa_cons (pv 0) (pa_cons pe_int pa_nil))) pe_int (nomark _)) (pe_ix ix_list (pv 3) (pe_callR F_l_off (hr.mono (by decide)) rfl T.g_l_off T.k_l_off (pa_cons (pv 0) (pa_cons (pe_callB call_len_seq rfl T.u_len PySem.boot_len (pa_cons (pv 3) pa_nil)) pa_nil))) (fun _ _ => rfl)) pe_str))
      (pss_cons (ps_par rfl sc_l_row.nd (i := 5) (j := 6) rfl rfl (by decide) rfl rfl (pa_cons (pe_callR F_l_off (hr.mono (by decide)) rfl T.g_l_off T.k_l_off (pa_cons (pv 0) (pa_cons pe_int pa_nil))) (pa_cons (pe_callR F_l_off (hr.mono (by decide)) rfl T.g_l_off T.k_l_off (pa_cons (pv 0) (pa_cons pe_int pa_nil))) pa_nil)) rfl)
      (pss_cons (ps_set (i := 7) sc_l_row.nd rfl (Or.inl rfl) (pe_callR F_l_off (hr.mono (by decide)) rfl T.g_l_off T.k_l_off (pa_cons (pv 0) (pa_cons (pe_ix ix_list (pe_lst (pa_cons pe_int (pa_cons pe_int pa_nil))) (pe_callR F_l_off (hr.mono (by decide)) rfl T.g_l_off T.k_l_off (pa_cons (pv 0) (pa_cons pe_int pa_nil))) (fun _ _ => rfl)) pa_nil))))
      (pss_cons (ps_if (pt_cmpR op_in_seq (pv 4) (pe_tup (pa_cons pe_str (pa_cons pe_str (pa_cons pe_str (pa_cons pe_str pa_nil))))) rfl) (pss_one (ps_ret (pe_tup (pa_cons (pv 4) (pa_cons (pv 5) (pa_cons (pv 6) pa_nil)))))) pss_nil)
      (pss_cons (ps_if (pt_cmpR op_in_seq (pv 4) (pe_tup (pa_cons pe_str (pa_cons pe_str pa_nil))) rfl) (pss_one (ps_ret (pe_ifExp (pt_cmpR op_eq (pv 4) pe_str (nomark _)) (pe_tup (pa_cons (pv 4) (pa_cons (pv 5) (pa_cons (pv 7) pa_nil)))) (pe_tup (pa_cons (pv 4) (pa_cons (pv 7) (pa_cons (pv 5) pa_nil))))))) pss_nil)
      (pss_cons (ps_if (pt_cmpR op_in_seq (pv 4) (pe_tup (pa_cons pe_str (pa_cons pe_str pa_nil))) rfl) (pss_one (ps_ret (pe_ifExp (pt_cmpR op_eq (pv 4) pe_str (nomark _)) (pe_tup (pa_cons (pv 4) (pa_cons (pe_op op_mod (pv 5) pe_int) (pa_cons (pv 7) pa_nil)))) (pe_tup (pa_cons (pv 4) (pa_cons (pv 7) (pa_cons (pe_op op_mod (pv 5) pe_int) pa_nil))))))) pss_nil)
      (pss_cons (ps_if (pt_cmpR op_in_seq (pv 4) (pe_tup (pa_cons pe_str (pa_cons pe_str pa_nil))) rfl) (pss_one (ps_ret (pe_ifExp (pt_cmpR op_eq (pv 4) pe_str (nomark _)) (pe_tup (pa_cons (pv 4) (pa_cons (pe_callR F_l_off (hr.mono (by decide)) rfl T.g_l_off T.k_l_off (pa_cons (pv 0) (pa_cons (pv 1) pa_nil))) pa_nil))) (pe_tup (pa_cons (pv 4) (pa_cons (pv 5) (pa_cons (pe_callR F_l_off (hr.mono (by decide)) rfl T.g_l_off T.k_l_off (pa_cons (pv 0) (pa_cons (pv 1) pa_nil))) pa_nil))))))) pss_nil)
      (pss_cons (ps_set (i := 8) sc_l_row.nd rfl (Or.inl rfl) (pe_disp (pps_cons pe_str (pe_tup (pa_cons (pv 5) (pa_cons (pe_callR F_l_off (hr.mono (by decide)) rfl T.g_l_off T.k_l_off (pa_cons (pv 0) (pa_cons pe_int pa_nil))) pa_nil))) (pps_cons pe_str (pe_tup (pa_cons (pe_callR F_l_off (hr.mono (by decide)) rfl T.g_l_off T.k_l_off (pa_cons (pv 0) (pa_cons pe_int pa_nil))) pa_nil)) (pps_cons pe_str (pe_tup (pa_cons (pv 5) (pa_cons (pe_callR F_l_off (hr.mono (by decide)) rfl T.g_l_off T.k_l_off (pa_cons (pv 0) (pa_cons pe_int pa_nil))) pa_nil))) (pps_cons pe_str (pe_tup pa_nil) pps_nil)))) rfl rfl (by simp) (by decide)))
      (pss_cons (ps_expr (pe_bm PySem.F.plainAttrs_dict PySem.F.slot_dict_update PySem.F.type_dict_update (mt_updP rfl) (pv 8) (pa_cons (pe_lst (pa_cons (pe_tup (pa_cons pe_str (pa_cons (pe_tup (pa_cons (pe_op op_mod (pv 5) pe_int) pa_nil)) pa_nil))) (pa_cons (pe_tup (pa_cons pe_str (pa_cons (pe_tup (pa_cons (pe_op op_mod (pv 5) pe_int) pa_nil)) pa_nil))) (pa_cons (pe_tup (pa_cons pe_str (pa_cons (pe_tup (pa_cons (pe_op op_add pe_int (pe_callR F_l_off (hr.mono (by decide)) rfl T.g_l_off T.k_l_off (pa_cons (pv 0) (pa_cons pe_int pa_nil)))) pa_nil)) pa_nil))) pa_nil)))) pa_nil)))
      (pss_one (ps_ret (pe_op op_catA (pe_tup (pa_cons (pv 4) pa_nil)) (pe_dget hu1 (pv 8) (pv 4) (fun _ _ => rfl)))))))))))))))), ?_⟩
    have S0 : StD H d sl cs.length H := ⟨f, p, cs, D, rfl, Kept.refl _ _⟩
    refine ⟨by show 14 ≤ sizeLine; decide, fun w1 hw1 => ?_⟩
    generalize hG1 : upd H w1 _ = G1
    have S1 : StD H d sl cs.length G1 := by rw [← hG1]; exact S0.new hw1
    have e1 : G1 w1 = some (.lst (L14.map Kd.v)) := by rw [← hG1]; exact upd_same
    clear hG1
    refine ⟨_, rfl, by show 8 ≤ sizeLine; decide, fun w2 hw2 => ?_⟩
    generalize hG2 : upd G1 w2 _ = G2
    have S2 : StD H d sl cs.length G2 := by rw [← hG2]; exact S1.new hw2
    have e2 : G2 w2 = some (.lst (L8.map Kd.v)) := by rw [← hG2]; exact upd_same
    have e12 : G2 w1 = some (.lst (L14.map Kd.v)) := by rw [← hG2, upd_ne (ne_of_none e1 hw2)]; exact e1
    clear hG2
    refine ⟨_, rfl, .inr ⟨_, rfl, ?_⟩⟩
    refine ⟨3, _, rfl, rfl, .inl ⟨by decide, by decide⟩, ?_⟩
    refine ⟨8, _, rfl, rfl, ?_⟩
    refine ⟨_, rfl, ?_⟩
    refine ⟨w2, L8.map Kd.v, rfl, SqL.of e2, fun w3 hw3 => ?_⟩
    rw [ecut]
    generalize hG3 : upd G2 w3 _ = G3
    have S3 : StD H d sl cs.length G3 := by rw [← hG3]; exact S2.new hw3
    have e3 : G3 w3 = some (.lst ((L8.take (if st = true then 5 else 8)).map Kd.v)) := by rw [← hG3]; exact upd_same
    have e13 : G3 w1 = some (.lst (L14.map Kd.v)) := by rw [← hG3, upd_ne (ne_of_none e12 hw3)]; exact e12
    clear hG3
    refine ⟨w1, w3, _, _, rfl, rfl, e13, e3, ?_, fun w4 hw4 => ?_⟩
    · rw [List.length_map, List.length_map, List.length_take]
      exact Nat.le_trans (Nat.add_le_add (Nat.le_refl 14) (Nat.min_le_right _ _)) (by decide)
    rw [← List.map_append]
    generalize hG4 : upd G3 w4 _ = G4
    have S4 : StD H d sl cs.length G4 := by rw [← hG4]; exact S3.new hw4
    have e4 : G4 w4 = some (.lst ((Lk st).map Kd.v)) := by rw [← hG4]; exact upd_same
    have nw4 : w4 ∉ [d, sl] := S3.nin hw4
    clear hG4 e3 e13 e12 e2 e1
    have via : ∀ {te : TE} {σ : L2.St} {Q : VK}, (∀ Q' : VK, (∀ kd Hn, (st = true → kd ≠ Kd.go ∧ kd ≠ Kd.iff) → StD H d sl cs.length Hn → Q' (.str kd.str) Hn) → te σ G4 Q') → (∀ kd Hn, (st = true → kd ≠ Kd.go ∧ kd ≠ Kd.iff) → StD H d sl cs.length Hn → Q (.str kd.str) Hn) → te σ G4 Q := fun h q => h _ q
    refine via (te := tIf (tTest (tOp (rI0 fun i j => V.bl (decide (j < i))) (tCallR (sp_l_off K) (tCons (tVar 0) (tCons (tC (V.int 25)) tNil))) (tC (V.int 0)))) (tOp (rIxL K) (tVar 3) (tCallR (sp_l_off K) (tCons (tVar 0) (tCons (tCB (fun xs H Q => ∃ p ys, xs = [.ref p] ∧ (SqL K H p ys ∨ SqT K H p ys) ∧ Q (.int ys.length) H) (tCons (tVar 3) tNil)) tNil)))) (tC (.str "end"))) (fun Q' k => ?_) (fun kd G5 gk S5 => ?_)
    · refine S4.off c63 rfl (fun _ h => h) (by decide) (by decide) (fun Hy v Sy ky v0 v1 => ?_)
      refine ⟨_, _, rfl, rfl, ?_⟩
      refine ⟨_, rfl, ?_⟩
      have ey : Hy w4 = some (.lst ((Lk st).map Kd.v)) := ky _ _ e4 nw4
      refine ite2 (fun c1 => ?_) (fun c1 => ?_)
      · refine ⟨_, rfl, ?_⟩
        refine Sy.off (m := ((Lk st).length : Int)) c63 rfl (fun Q2 h => ⟨_, rfl, _, _, rfl, .inl (SqL.of ey), by rw [List.length_map]; exact h⟩) (by rw [Lk_len]; cases st <;> decide) (by rw [Lk_len]; cases st <;> decide) (fun Hz u Sz kz u0 u1 => ?_)
        have ez : Hz w4 = some (.lst ((Lk st).map Kd.v)) := kz _ _ ey nw4
        obtain ⟨kd, hkd⟩ : ∃ kd, (Lk st)[u.toNat]? = some kd := ⟨_, List.getElem?_eq_getElem (by omega)⟩
        refine ⟨_, _, _, _, rfl, rfl, SqL.of ez, ?_, k kd Hz (fun hs => ?_) Sz⟩
        · unfold atI ixN
          rw [if_pos u0, List.length_map, if_pos u1]
          show ((Lk st).map Kd.v)[u.toNat]? = _
          rw [List.getElem?_map, hkd]
          rfl
        · subst hs
          exact Lk_st kd (List.mem_of_getElem? hkd)
      · exact k .fin Hy (fun _ => ⟨Kd.noConfusion, Kd.noConfusion⟩) Sy
    · refine S5.off c63 rfl (fun _ h => h) (by decide) (by decide) (fun G6 r S6 k6 r0 r1 => ?_)
      refine S6.off c63 rfl (fun _ h => h) (by decide) (by decide) (fun G7 x S7 k7 x0 x1 => ?_)
      refine ⟨_, _, rfl, ?_⟩
      refine S7.pick c63 rfl (by decide) (by decide) (by decide) (by decide) (fun G8 ad S8 k8 ad0 ad1 => ?_)
      have ad31 : rg 0 31 ad := ⟨ad0, by omega⟩
      have r3 : rg 0 3 r := ⟨r0, by omega⟩
      have x3 : rg 0 3 x := ⟨x0, by omega⟩
      have rm : rg 0 2 (r % 3) := ⟨by omega, by omega⟩
      clear S0 S1 S2 S3 S4 S5 S6 S7 via
      have fin : ∀ (Hx : Hp) (rw_ : Row) (t : Addr), StD H d sl cs.length Hx → H t = none → Hx t = some (.tup rw_.vs) → rw_.ok many.toNat → (st = true → (∀ x, rw_ ≠ .go x) ∧ ∀ x y, rw_ ≠ .iff x y) → Q (.ref t) Hx := fun Hx rw_ t Sx nt ht ok hs => by
        obtain ⟨f, p, cs', Dx, cx, kx⟩ := Sx
        exact q Hx f p cs' t rw_ Dx cx kx nt ht ok hs
      have tup3 : ∀ (Hx : Hp) (rw_ : Row), StD H d sl cs.length Hx → rw_.ok many.toNat → (st = true → (∀ x, rw_ ≠ .go x) ∧ ∀ x y, rw_ ≠ .iff x y) → ∀ t, Hx t = none → Q (.ref t) (upd Hx t (.tup rw_.vs)) := fun Hx rw_ Sx ok hs t ht => fin _ rw_ t (Sx.new ht) (Sx.free ht) upd_same ok hs
      cases kd
      case add =>
        refine t_in true rfl (fun _ => rfl) (by decide) (by kernel_rfl) (by kernel_rfl) (fun u0 hu0 => iteT ?_)
        refine ⟨_, rfl, _, rfl, _, rfl, by show 3 ≤ sizeLine; decide, fun t ht => ?_⟩
        exact tup3 _ (.add r x) (S8.new hu0) ⟨r3, x3⟩ (fun _ => ⟨fun _ => Row.noConfusion, fun _ _ => Row.noConfusion⟩) t ht
      case less =>
        refine t_in true rfl (fun _ => rfl) (by decide) (by kernel_rfl) (by kernel_rfl) (fun u0 hu0 => iteT ?_)
        refine ⟨_, rfl, _, rfl, _, rfl, by show 3 ≤ sizeLine; decide, fun t ht => ?_⟩
        exact tup3 _ (.less r x) (S8.new hu0) ⟨r3, x3⟩ (fun _ => ⟨fun _ => Row.noConfusion, fun _ _ => Row.noConfusion⟩) t ht
      case getx =>
        refine t_in true rfl (fun _ => rfl) (by decide) (by kernel_rfl) (by kernel_rfl) (fun u0 hu0 => iteT ?_)
        refine ⟨_, rfl, _, rfl, _, rfl, by show 3 ≤ sizeLine; decide, fun t ht => ?_⟩
        exact tup3 _ (.getx r x) (S8.new hu0) ⟨r3, x3⟩ (fun _ => ⟨fun _ => Row.noConfusion, fun _ _ => Row.noConfusion⟩) t ht
      case putx =>
        refine t_in true rfl (fun _ => rfl) (by decide) (by kernel_rfl) (by kernel_rfl) (fun u0 hu0 => iteT ?_)
        refine ⟨_, rfl, _, rfl, _, rfl, by show 3 ≤ sizeLine; decide, fun t ht => ?_⟩
        exact tup3 _ (.putx r x) (S8.new hu0) ⟨r3, x3⟩ (fun _ => ⟨fun _ => Row.noConfusion, fun _ _ => Row.noConfusion⟩) t ht
      case get =>
        refine t_in false rfl (fun _ => rfl) (by decide) (by kernel_rfl) (by kernel_rfl) (fun u0 hu0 => iteF ?_)
        refine t_in true rfl (fun _ => rfl) (by decide) (by kernel_rfl) (by kernel_rfl) (fun u1 hu1 => iteT ?_)
        refine ⟨_, rfl, rfl, _, rfl, ?_⟩
        rw [dec_str]
        rw [decide_eq_true (by rfl)]
        refine iteT ?_
        refine ⟨_, rfl, _, rfl, _, rfl, by show 3 ≤ sizeLine; decide, fun t ht => ?_⟩
        exact tup3 _ (.get r ad) ((S8.new hu0).new hu1) ⟨r3, ad31⟩ (fun _ => ⟨fun _ => Row.noConfusion, fun _ _ => Row.noConfusion⟩) t ht
      case put =>
        refine t_in false rfl (fun _ => rfl) (by decide) (by kernel_rfl) (by kernel_rfl) (fun u0 hu0 => iteF ?_)
        refine t_in true rfl (fun _ => rfl) (by decide) (by kernel_rfl) (by kernel_rfl) (fun u1 hu1 => iteT ?_)
        refine ⟨_, rfl, rfl, _, rfl, ?_⟩
        rw [dec_str]
        rw [decide_eq_false (by decide +kernel)]
        refine iteF ?_
        refine ⟨_, rfl, _, rfl, _, rfl, by show 3 ≤ sizeLine; decide, fun t ht => ?_⟩
        exact tup3 _ (.put ad r) ((S8.new hu0).new hu1) ⟨ad31, r3⟩ (fun _ => ⟨fun _ => Row.noConfusion, fun _ _ => Row.noConfusion⟩) t ht
      case pair =>
        refine t_in false rfl (fun _ => rfl) (by decide) (by kernel_rfl) (by kernel_rfl) (fun u0 hu0 => iteF ?_)
        refine t_in false rfl (fun _ => rfl) (by decide) (by kernel_rfl) (by kernel_rfl) (fun u1 hu1 => iteF ?_)
        refine t_in true rfl (fun _ => rfl) (by decide) (by kernel_rfl) (by kernel_rfl) (fun u2 hu2 => iteT ?_)
        refine ⟨_, rfl, rfl, _, rfl, ?_⟩
        rw [dec_str]
        rw [decide_eq_true (by rfl)]
        refine iteT ?_
        refine ⟨_, rfl, _, rfl, _, _, rfl, rfl, (by show (0 : Int) < 3; decide), _, rfl, by show 3 ≤ sizeLine; decide, fun t ht => ?_⟩
        exact tup3 _ (.pair (r % 3) ad) (((S8.new hu0).new hu1).new hu2) ⟨rm, ad31⟩ (fun _ => ⟨fun _ => Row.noConfusion, fun _ _ => Row.noConfusion⟩) t ht
      case lay =>
        refine t_in false rfl (fun _ => rfl) (by decide) (by kernel_rfl) (by kernel_rfl) (fun u0 hu0 => iteF ?_)
        refine t_in false rfl (fun _ => rfl) (by decide) (by kernel_rfl) (by kernel_rfl) (fun u1 hu1 => iteF ?_)
        refine t_in true rfl (fun _ => rfl) (by decide) (by kernel_rfl) (by kernel_rfl) (fun u2 hu2 => iteT ?_)
        refine ⟨_, rfl, rfl, _, rfl, ?_⟩
        rw [dec_str]
        rw [decide_eq_false (by decide +kernel)]
        refine iteF ?_
        refine ⟨_, rfl, _, rfl, _, rfl, _, _, rfl, rfl, (by show (0 : Int) < 3; decide), by show 3 ≤ sizeLine; decide, fun t ht => ?_⟩
        exact tup3 _ (.lay ad (r % 3)) (((S8.new hu0).new hu1).new hu2) ⟨ad31, rm⟩ (fun _ => ⟨fun _ => Row.noConfusion, fun _ _ => Row.noConfusion⟩) t ht
      case go =>
        refine t_in false rfl (fun _ => rfl) (by decide) (by kernel_rfl) (by kernel_rfl) (fun u0 hu0 => iteF ?_)
        refine t_in false rfl (fun _ => rfl) (by decide) (by kernel_rfl) (by kernel_rfl) (fun u1 hu1 => iteF ?_)
        refine t_in false rfl (fun _ => rfl) (by decide) (by kernel_rfl) (by kernel_rfl) (fun u2 hu2 => iteF ?_)
        refine t_in true rfl (fun _ => rfl) (by decide) (by kernel_rfl) (by kernel_rfl) (fun u3 hu3 => iteT ?_)
        refine ⟨_, rfl, rfl, _, rfl, ?_⟩
        rw [dec_str]
        rw [decide_eq_true (by rfl)]
        refine iteT ?_
        refine ⟨_, rfl, ?_⟩
        refine StD.off ((((S8.new hu0).new hu1).new hu2).new hu3) c63 rfl (fun _ h => ⟨_, rfl, h⟩) (by omega) (by omega) (fun G9 v S9 k9 v0 v1 => ?_)
        refine ⟨by show 2 ≤ sizeLine; decide, fun t ht => ?_⟩
        exact tup3 _ (.go v) S9 ⟨v0, by omega⟩ (fun hs => absurd rfl (gk hs).1) t ht
      case iff =>
        refine t_in false rfl (fun _ => rfl) (by decide) (by kernel_rfl) (by kernel_rfl) (fun u0 hu0 => iteF ?_)
        refine t_in false rfl (fun _ => rfl) (by decide) (by kernel_rfl) (by kernel_rfl) (fun u1 hu1 => iteF ?_)
        refine t_in false rfl (fun _ => rfl) (by decide) (by kernel_rfl) (by kernel_rfl) (fun u2 hu2 => iteF ?_)
        refine t_in true rfl (fun _ => rfl) (by decide) (by kernel_rfl) (by kernel_rfl) (fun u3 hu3 => iteT ?_)
        refine ⟨_, rfl, rfl, _, rfl, ?_⟩
        rw [dec_str]
        rw [decide_eq_false (by decide +kernel)]
        refine iteF ?_
        refine ⟨_, rfl, _, rfl, ?_⟩
        refine StD.off ((((S8.new hu0).new hu1).new hu2).new hu3) c63 rfl (fun _ h => ⟨_, rfl, h⟩) (by omega) (by omega) (fun G9 v S9 k9 v0 v1 => ?_)
        refine ⟨by show 3 ≤ sizeLine; decide, fun t ht => ?_⟩
        exact tup3 _ (.iff r v) S9 ⟨r3, v0, by omega⟩ (fun hs => absurd rfl (gk hs).2) t ht
      all_goals
        refine t_in false rfl (fun _ => rfl) (by decide) (by kernel_rfl) (by kernel_rfl) (fun u0 hu0 => iteF ?_)
        refine t_in false rfl (fun _ => rfl) (by decide) (by kernel_rfl) (by kernel_rfl) (fun u1 hu1 => iteF ?_)
        refine t_in false rfl (fun _ => rfl) (by decide) (by kernel_rfl) (by kernel_rfl) (fun u2 hu2 => iteF ?_)
        refine t_in false rfl (fun _ => rfl) (by decide) (by kernel_rfl) (by kernel_rfl) (fun u3 hu3 => iteF ?_)
        generalize hG9 : upd _ u3 _ = G9
        have S9 : StD H d sl cs.length G9 := by rw [← hG9]; exact (((S8.new hu0).new hu1).new hu2).new hu3
        clear hG9
        intro p hp
        have np : p ∉ [d, sl] := S9.nin hp
        generalize hP0 : upd G9 p _ = P0
        have SP0 : StD H d sl cs.length P0 := by rw [← hP0]; exact S9.new hp
        have p0 : P0 p = some (.dK []) := by rw [← hP0]; exact upd_same
        clear hP0
        refine ⟨_, rfl, ?_⟩
        refine SP0.off c63 rfl (fun _ h => h) (by decide) (by decide) (fun P1 v1 SP1 kk1 v10 v11 => ?_)
        have k1 : Tk P0 P1 := SP0.tk kk1
        have p1 : P1 p = some (.dK []) := kk1 _ _ p0 np
        refine ⟨by show 2 ≤ sizeLine; decide, fun t1 nt1 => ?_⟩
        generalize hP2 : upd P1 t1 _ = P2
        have SP2 : StD H d sl cs.length P2 := by rw [← hP2]; exact SP1.new nt1
        have k2 : Tk P1 P2 := by rw [← hP2]; exact Tk.same (Same.new (Same.refl _) nt1)
        have ht1 : P2 t1 = some (.tup [.int r, .int v1]) := by rw [← hP2]; exact upd_same
        have p2 : P2 p = some (.dK []) := by rw [← hP2, upd_ne (ne_of_none p1 nt1)]; exact p1
        clear hP2
        refine SP2.off c63 rfl (fun _ h => h) (by decide) (by decide) (fun P3 v2 SP3 kk3 v20 v21 => ?_)
        have k3 : Tk P2 P3 := SP2.tk kk3
        have p3 : P3 p = some (.dK []) := kk3 _ _ p2 np
        refine ⟨by show 1 ≤ sizeLine; decide, fun t2 nt2 => ?_⟩
        generalize hP4 : upd P3 t2 _ = P4
        have SP4 : StD H d sl cs.length P4 := by rw [← hP4]; exact SP3.new nt2
        have k4 : Tk P3 P4 := by rw [← hP4]; exact Tk.same (Same.new (Same.refl _) nt2)
        have ht2 : P4 t2 = some (.tup [.int v2]) := by rw [← hP4]; exact upd_same
        have p4 : P4 p = some (.dK []) := by rw [← hP4, upd_ne (ne_of_none p3 nt2)]; exact p3
        clear hP4
        refine ⟨_, rfl, ?_⟩
        refine SP4.off c63 rfl (fun _ h => h) (by decide) (by decide) (fun P5 v3 SP5 kk5 v30 v31 => ?_)
        have k5 : Tk P4 P5 := SP4.tk kk5
        have p5 : P5 p = some (.dK []) := kk5 _ _ p4 np
        refine ⟨by show 2 ≤ sizeLine; decide, fun t3 nt3 => ?_⟩
        generalize hP6 : upd P5 t3 _ = P6
        have SP6 : StD H d sl cs.length P6 := by rw [← hP6]; exact SP5.new nt3
        have k6 : Tk P5 P6 := by rw [← hP6]; exact Tk.same (Same.new (Same.refl _) nt3)
        have ht3 : P6 t3 = some (.tup [.int r, .int v3]) := by rw [← hP6]; exact upd_same
        have p6 : P6 p = some (.dK []) := by rw [← hP6, upd_ne (ne_of_none p5 nt3)]; exact p5
        clear hP6
        refine ⟨by show 0 ≤ sizeLine; decide, fun t4 nt4 => ?_⟩
        generalize hP7 : upd P6 t4 _ = P7
        have SP7 : StD H d sl cs.length P7 := by rw [← hP7]; exact SP6.new nt4
        have k7 : Tk P6 P7 := by rw [← hP7]; exact Tk.same (Same.new (Same.refl _) nt4)
        have ht4 : P7 t4 = some (.tup []) := by rw [← hP7]; exact upd_same
        have p7 : P7 p = some (.dK []) := by rw [← hP7, upd_ne (ne_of_none p6 nt4)]; exact p6
        clear hP7
        refine ⟨p7, [(Sum.inr "set", .ref t1), (Sum.inr "ask", .ref t2), (Sum.inr "done", .ref t3), (Sum.inr "end", .ref t4)], rfl, Nat.le_of_ble_eq_true rfl, ?_⟩
        generalize hM : mergeK [] _ = M
        generalize hP8 : upd P7 p _ = P8
        have kp8 : Kept [p] P7 P8 := by rw [← hP8]; exact (Kept.refl _ _).put (by simp)
        have k8 : Tk P7 P8 := Tk.put1 kp8 p7 rfl
        have SP8 : StD H d sl cs.length P8 := SP7.putP kp8 np (S9.free hp)
        have p8 : P8 p = some (.dK M) := by rw [← hP8]; exact upd_same
        clear hP8
        refine ⟨_, rfl, ?_⟩
        refine ⟨.inr (.inr (.inl ⟨rfl, .inl ⟨_, p8⟩⟩)), ?_⟩
        refine ⟨_, rfl, _, _, rfl, rfl, (by show (0 : Int) < 3; decide), ?_⟩
        refine ⟨by show 1 ≤ sizeLine; decide, fun a1 na1 => ?_⟩
        generalize hP9 : upd P8 a1 _ = P9
        have SP9 : StD H d sl cs.length P9 := by rw [← hP9]; exact SP8.new na1
        have k9 : Tk P8 P9 := by rw [← hP9]; exact Tk.same (Same.new (Same.refl _) na1)
        have ha1 : P9 a1 = some (.tup [.int (r % 3)]) := by rw [← hP9]; exact upd_same
        have p9 : P9 p = some (.dK M) := by rw [← hP9, upd_ne (ne_of_none p8 na1)]; exact p8
        clear hP9
        refine ⟨by show 2 ≤ sizeLine; decide, fun b1 nb1 => ?_⟩
        generalize hP10 : upd P9 b1 _ = P10
        have SP10 : StD H d sl cs.length P10 := by rw [← hP10]; exact SP9.new nb1
        have k10 : Tk P9 P10 := by rw [← hP10]; exact Tk.same (Same.new (Same.refl _) nb1)
        have hb1 : P10 b1 = some (.tup [.str "mark", .ref a1]) := by rw [← hP10]; exact upd_same
        have p10 : P10 p = some (.dK M) := by rw [← hP10, upd_ne (ne_of_none p9 nb1)]; exact p9
        clear hP10
        refine ⟨_, rfl, _, _, rfl, rfl, (by show (0 : Int) < 3; decide), ?_⟩
        refine ⟨by show 1 ≤ sizeLine; decide, fun a2 na2 => ?_⟩
        generalize hP11 : upd P10 a2 _ = P11
        have SP11 : StD H d sl cs.length P11 := by rw [← hP11]; exact SP10.new na2
        have k11 : Tk P10 P11 := by rw [← hP11]; exact Tk.same (Same.new (Same.refl _) na2)
        have ha2 : P11 a2 = some (.tup [.int (r % 3)]) := by rw [← hP11]; exact upd_same
        have p11 : P11 p = some (.dK M) := by rw [← hP11, upd_ne (ne_of_none p10 na2)]; exact p10
        clear hP11
        refine ⟨by show 2 ≤ sizeLine; decide, fun b2 nb2 => ?_⟩
        generalize hP12 : upd P11 b2 _ = P12
        have SP12 : StD H d sl cs.length P12 := by rw [← hP12]; exact SP11.new nb2
        have k12 : Tk P11 P12 := by rw [← hP12]; exact Tk.same (Same.new (Same.refl _) nb2)
        have hb2 : P12 b2 = some (.tup [.str "clear", .ref a2]) := by rw [← hP12]; exact upd_same
        have p12 : P12 p = some (.dK M) := by rw [← hP12, upd_ne (ne_of_none p11 nb2)]; exact p11
        clear hP12
        refine SP12.off c63 rfl (fun _ h => h) (by decide) (by decide) (fun P13 v4 SP13 kk13 v40 v41 => ?_)
        have k13 : Tk P12 P13 := SP12.tk kk13
        have p13 : P13 p = some (.dK M) := kk13 _ _ p12 np
        refine ⟨_, _, rfl, rfl, ?_⟩
        refine ⟨by show 1 ≤ sizeLine; decide, fun a3 na3 => ?_⟩
        generalize hP14 : upd P13 a3 _ = P14
        have SP14 : StD H d sl cs.length P14 := by rw [← hP14]; exact SP13.new na3
        have k14 : Tk P13 P14 := by rw [← hP14]; exact Tk.same (Same.new (Same.refl _) na3)
        have ha3 : P14 a3 = some (.tup [.int (1 + v4)]) := by rw [← hP14]; exact upd_same
        have p14 : P14 p = some (.dK M) := by rw [← hP14, upd_ne (ne_of_none p13 na3)]; exact p13
        clear hP14
        refine ⟨by show 2 ≤ sizeLine; decide, fun b3 nb3 => ?_⟩
        generalize hP15 : upd P14 b3 _ = P15
        have SP15 : StD H d sl cs.length P15 := by rw [← hP15]; exact SP14.new nb3
        have k15 : Tk P14 P15 := by rw [← hP15]; exact Tk.same (Same.new (Same.refl _) nb3)
        have hb3 : P15 b3 = some (.tup [.str "rest", .ref a3]) := by rw [← hP15]; exact upd_same
        have p15 : P15 p = some (.dK M) := by rw [← hP15, upd_ne (ne_of_none p14 nb3)]; exact p14
        clear hP15
        refine ⟨by show 3 ≤ sizeLine; decide, fun l nl => ?_⟩
        generalize hP16 : upd P15 l _ = P16
        have SP16 : StD H d sl cs.length P16 := by rw [← hP16]; exact SP15.new nl
        have k16 : Tk P15 P16 := by rw [← hP16]; exact Tk.same (Same.new (Same.refl _) nl)
        have hl : P16 l = some (.lst ([b1, b2, b3].map V.ref)) := by rw [← hP16]; exact upd_same
        have p16 : P16 p = some (.dK M) := by rw [← hP16, upd_ne (ne_of_none p15 nl)]; exact p15
        clear hP16
        refine ⟨p, l, [b1, b2, b3], M, [(Sum.inr "mark", .ref a1), (Sum.inr "clear", .ref a2), (Sum.inr "rest", .ref a3)], rfl, rfl, p16, hl, .cons (k16 _ _ (k15 _ _ (k14 _ _ (k13 _ _ (k12 _ _ (k11 _ _ hb1)))))) (.cons (k16 _ _ (k15 _ _ (k14 _ _ (k13 _ _ hb2)))) (.cons (k16 _ _ hb3) .nil)), ?_, ?_⟩
        · rw [← hM]; exact Nat.le_of_ble_eq_true (by kernel_rfl)
        generalize hN : mergeK M _ = N
        generalize hP17 : upd P16 p _ = P17
        have kp17 : Kept [p] P16 P17 := by rw [← hP17]; exact (Kept.refl _ _).put (by simp)
        have k17 : Tk P16 P17 := Tk.put1 kp17 p16 rfl
        have SP17 : StD H d sl cs.length P17 := SP16.putP kp17 np (S9.free hp)
        have p17 : P17 p = some (.dK N) := by rw [← hP17]; exact upd_same
        clear hP17
      · have hz := k17 _ _ (k16 _ _ (k15 _ _ (k14 _ _ (k13 _ _ (k12 _ _ (k11 _ _ (k10 _ _ (k9 _ _ (k8 _ _ (k7 _ _ (k6 _ _ (k5 _ _ (k4 _ _ (k3 _ _ (ht1)))))))))))))))
        refine ⟨_, rfl, by show 1 ≤ sizeLine; decide, fun y ny => ?_⟩
        have sy : Same P17 (upd P17 y (.tup [.str "set"])) := Same.new (Same.refl _) ny
        have hv : (some (V.ref t1) : Option V) = valV N (Sum.inr "set") := by rw [← hN, ← hM]; kernel_rfl
        refine ⟨_, rfl, _, rfl, p, .ref t1, rfl, .inl ⟨N, Sum.inr "set", .inl (sy _ _ p17), rfl, hv⟩, ?_⟩
        refine ⟨y, t1, _, _, rfl, rfl, SqT.of upd_same, SqT.of (sy _ _ hz), (by show 3 ≤ sizeLine; decide), (fun c => nomatch c), (fun _ c => nomatch c), fun _ _ t9 n9 => ?_⟩
        exact tup3 _ (.set r v1) (SP17.new ny) ⟨r3, v10, by omega⟩ (fun _ => ⟨fun _ => Row.noConfusion, fun _ _ => Row.noConfusion⟩) t9 n9
      · have hz := k17 _ _ (k16 _ _ (k15 _ _ (k14 _ _ (k13 _ _ (k12 _ _ (k11 _ _ (k10 _ _ (k9 _ _ (k8 _ _ (k7 _ _ (k6 _ _ (k5 _ _ (ht2)))))))))))))
        refine ⟨_, rfl, by show 1 ≤ sizeLine; decide, fun y ny => ?_⟩
        have sy : Same P17 (upd P17 y (.tup [.str "ask"])) := Same.new (Same.refl _) ny
        have hv : (some (V.ref t2) : Option V) = valV N (Sum.inr "ask") := by rw [← hN, ← hM]; kernel_rfl
        refine ⟨_, rfl, _, rfl, p, .ref t2, rfl, .inl ⟨N, Sum.inr "ask", .inl (sy _ _ p17), rfl, hv⟩, ?_⟩
        refine ⟨y, t2, _, _, rfl, rfl, SqT.of upd_same, SqT.of (sy _ _ hz), (by show 2 ≤ sizeLine; decide), (fun c => nomatch c), (fun _ c => nomatch c), fun _ _ t9 n9 => ?_⟩
        exact tup3 _ (.ask v2) (SP17.new ny) ⟨v20, by omega⟩ (fun _ => ⟨fun _ => Row.noConfusion, fun _ _ => Row.noConfusion⟩) t9 n9
      · have hz := k17 _ _ (k16 _ _ (k15 _ _ (k14 _ _ (k13 _ _ (k12 _ _ (k11 _ _ (k10 _ _ (k9 _ _ (k8 _ _ (k7 _ _ (ht3)))))))))))
        refine ⟨_, rfl, by show 1 ≤ sizeLine; decide, fun y ny => ?_⟩
        have sy : Same P17 (upd P17 y (.tup [.str "done"])) := Same.new (Same.refl _) ny
        have hv : (some (V.ref t3) : Option V) = valV N (Sum.inr "done") := by rw [← hN, ← hM]; kernel_rfl
        refine ⟨_, rfl, _, rfl, p, .ref t3, rfl, .inl ⟨N, Sum.inr "done", .inl (sy _ _ p17), rfl, hv⟩, ?_⟩
        refine ⟨y, t3, _, _, rfl, rfl, SqT.of upd_same, SqT.of (sy _ _ hz), (by show 3 ≤ sizeLine; decide), (fun c => nomatch c), (fun _ c => nomatch c), fun _ _ t9 n9 => ?_⟩
        exact tup3 _ (.done r v3) (SP17.new ny) ⟨r3, v30, by omega⟩ (fun _ => ⟨fun _ => Row.noConfusion, fun _ _ => Row.noConfusion⟩) t9 n9
      · have hz := k17 _ _ (k16 _ _ (k15 _ _ (k14 _ _ (k13 _ _ (k12 _ _ (k11 _ _ (k10 _ _ (ha1))))))))
        refine ⟨_, rfl, by show 1 ≤ sizeLine; decide, fun y ny => ?_⟩
        have sy : Same P17 (upd P17 y (.tup [.str "mark"])) := Same.new (Same.refl _) ny
        have hv : (some (V.ref a1) : Option V) = valV N (Sum.inr "mark") := by rw [← hN, ← hM]; kernel_rfl
        refine ⟨_, rfl, _, rfl, p, .ref a1, rfl, .inl ⟨N, Sum.inr "mark", .inl (sy _ _ p17), rfl, hv⟩, ?_⟩
        refine ⟨y, a1, _, _, rfl, rfl, SqT.of upd_same, SqT.of (sy _ _ hz), (by show 2 ≤ sizeLine; decide), (fun c => nomatch c), (fun _ c => nomatch c), fun _ _ t9 n9 => ?_⟩
        exact tup3 _ (.mark (r % 3)) (SP17.new ny) rm (fun _ => ⟨fun _ => Row.noConfusion, fun _ _ => Row.noConfusion⟩) t9 n9
      · have hz := k17 _ _ (k16 _ _ (k15 _ _ (k14 _ _ (k13 _ _ (k12 _ _ (ha2))))))
        refine ⟨_, rfl, by show 1 ≤ sizeLine; decide, fun y ny => ?_⟩
        have sy : Same P17 (upd P17 y (.tup [.str "clear"])) := Same.new (Same.refl _) ny
        have hv : (some (V.ref a2) : Option V) = valV N (Sum.inr "clear") := by rw [← hN, ← hM]; kernel_rfl
        refine ⟨_, rfl, _, rfl, p, .ref a2, rfl, .inl ⟨N, Sum.inr "clear", .inl (sy _ _ p17), rfl, hv⟩, ?_⟩
        refine ⟨y, a2, _, _, rfl, rfl, SqT.of upd_same, SqT.of (sy _ _ hz), (by show 2 ≤ sizeLine; decide), (fun c => nomatch c), (fun _ c => nomatch c), fun _ _ t9 n9 => ?_⟩
        exact tup3 _ (.clear (r % 3)) (SP17.new ny) rm (fun _ => ⟨fun _ => Row.noConfusion, fun _ _ => Row.noConfusion⟩) t9 n9
      · have hz := k17 _ _ (k16 _ _ (k15 _ _ (ha3)))
        refine ⟨_, rfl, by show 1 ≤ sizeLine; decide, fun y ny => ?_⟩
        have sy : Same P17 (upd P17 y (.tup [.str "rest"])) := Same.new (Same.refl _) ny
        have hv : (some (V.ref a3) : Option V) = valV N (Sum.inr "rest") := by rw [← hN, ← hM]; kernel_rfl
        refine ⟨_, rfl, _, rfl, p, .ref a3, rfl, .inl ⟨N, Sum.inr "rest", .inl (sy _ _ p17), rfl, hv⟩, ?_⟩
        refine ⟨y, a3, _, _, rfl, rfl, SqT.of upd_same, SqT.of (sy _ _ hz), (by show 2 ≤ sizeLine; decide), (fun c => nomatch c), (fun _ c => nomatch c), fun _ _ t9 n9 => ?_⟩
        exact tup3 _ (.rest (1 + v4)) (SP17.new ny) ⟨by omega, by omega⟩ (fun _ => ⟨fun _ => Row.noConfusion, fun _ _ => Row.noConfusion⟩) t9 n9
      · have hz := k17 _ _ (k16 _ _ (k15 _ _ (k14 _ _ (k13 _ _ (k12 _ _ (k11 _ _ (k10 _ _ (k9 _ _ (k8 _ _ (ht4))))))))))
        refine ⟨_, rfl, by show 1 ≤ sizeLine; decide, fun y ny => ?_⟩
        have sy : Same P17 (upd P17 y (.tup [.str "end"])) := Same.new (Same.refl _) ny
        have hv : (some (V.ref t4) : Option V) = valV N (Sum.inr "end") := by rw [← hN, ← hM]; kernel_rfl
        refine ⟨_, rfl, _, rfl, p, .ref t4, rfl, .inl ⟨N, Sum.inr "end", .inl (sy _ _ p17), rfl, hv⟩, ?_⟩
        refine ⟨y, t4, _, _, rfl, rfl, SqT.of upd_same, SqT.of (sy _ _ hz), (by show 1 ≤ sizeLine; decide), (fun c => nomatch c), fun _ _ => ?_, fun _ c => absurd rfl c⟩
        exact fin _ .fin y (SP17.new ny) (SP17.free ny) upd_same trivial (fun _ => ⟨fun _ => Row.noConfusion, fun _ _ => Row.noConfusion⟩)
end
end SB

set_option Elab.async false
set_option linter.all false
set_option maxRecDepth 100000
set_option maxHeartbeats 4000000
namespace SB
open PySem L2
section
variable {P : Program} {w : World} {K : PySem.W.Frag} {mg : Str → Option Value} {base : Heap}
def Straight (prog : List Row) : Prop := ∀ r ∈ prog, (∀ x, r ≠ .go x) ∧ ∀ x y, r ≠ .iff x y
def sp_l_program (K : PySem.W.Frag) : Sp := fun vs H Q _ => ∃ (d sl : Addr) (f p : Int) (cs : List Int) (st : Bool), vs = [.ref d, .bl st] ∧ DiceAt H d sl f p cs ∧ cs.length ≤ 63 ∧
  ∀ (H' : Hp) (f' p' : Int) (cs' : List Int) (pa : Addr) (rs : List Addr) (prog : List Row), DiceAt H' d sl f' p' cs' → cs'.length = cs.length → Kept [d, sl] H H' → H pa = none → ProgAt K H' pa rs prog → 0 < prog.length → prog.length ≤ 40 → (∀ r ∈ prog, r.ok prog.length) → (st = true → Straight prog) → Q (.ref pa) H'
theorem ok_l_program (T : T w K mg) : FnR P w K mg base CX0 3 (He.ga K "_law_program") (sp_l_program K) := by
  have F_l_off : FnR P w K mg base CX0 1 _ _ := ok_l_off T
  have F_l_row : FnR P w K mg base CX0 2 _ _ := ok_l_row T
  obtain ⟨fd, F⟩ := T.f_l_program
  refine F.r sc_l_program (fun _ _ _ _ _ _ us hl => match us, hl with | [_, _], _ => rfl) (fun vs H Q E h => ?_) (fun cdv A outer s H vs Q E hr h => ?_)
  · obtain ⟨_, _, _, _, _, _, rfl, _⟩ := h
    rfl
  · obtain ⟨d, sl, f, p, cs, st, rfl, D, c63, q⟩ := h
    refine ⟨_, (pss_cons (ps_set (i := 2) sc_l_program.nd rfl (Or.inr rfl) (pe_op op_add pe_int (pe_callR F_l_off (hr.mono (by decide)) rfl T.g_l_off T.k_l_off (pa_cons (pv 0) (pa_cons (pe_ix ix_list (pe_lst (pa_cons pe_int (pa_cons pe_int (pa_cons pe_int pa_nil)))) (pe_callR F_l_off (hr.mono (by decide)) rfl T.g_l_off T.k_l_off (pa_cons (pv 0) (pa_cons pe_int pa_nil))) (fun _ _ => rfl)) pa_nil)))))
      (pss_one (ps_ret (pe_callTy call_tuple_of rfl T.u_tuple (by decide +kernel) (pa_cons (pe_lc (own := [("_law_k", 3)]) (g := gName 3) (tt := tYes) (te := tCallR (sp_l_row K) (tCons (tVar 0) (tCons (tVar 2) (tCons (tVar 1) tNil)))) rfl sc_l_program.nd (pi_range1 rfl T.u_range (pa_cons (pv 2) pa_nil))
        (blkOk_by (N := ["_law_d", "_law_straight", "_law_many", "_law_k"]) (sc := defScope s_l_program) (by decide +kernel)) (fun _ _ _ _ _ => pg_name (i := 3) sc_l_program.nd rfl (Or.inl rfl)) (fun _ _ _ _ _ => pts_nil)
        (fun _ _ _ _ _ => pe_callR F_l_row (hr.mono (by decide)) rfl T.g_l_row T.k_l_row (pa_cons (pv 0) (pa_cons (pv 2) (pa_cons (pv 1) pa_nil))))) pa_nil))))), ?_⟩
    have S0 : StD H d sl cs.length H := ⟨f, p, cs, D, rfl, Kept.refl _ _⟩
    refine ⟨_, rfl, by show 3 ≤ sizeLine; decide, fun b hb => ?_⟩
    generalize hG1 : upd H b _ = G1
    have S1 : StD H d sl cs.length G1 := by rw [← hG1]; exact S0.new hb
    have e1 : G1 b = some (.lst [.int 8, .int 20, .int 40]) := by rw [← hG1]; exact upd_same
    have nb : b ∉ [d, sl] := S0.nin hb
    clear hG1
    refine S1.off c63 rfl (fun _ h => h) (by decide) (by decide) (fun G2 v S2 k2 v0 v1 => ?_)
    have e2 := k2 _ _ e1 nb
    obtain ⟨m, hm, m0, m40⟩ : ∃ m : Int, atI ([.int 8, .int 20, .int 40] : List V) v = some (.int m) ∧ 0 < m ∧ m ≤ 40 := by
      have : v = 0 ∨ v = 1 ∨ v = 2 := by omega
      rcases this with rfl | rfl | rfl
      · exact ⟨8, rfl, by decide, by decide⟩
      · exact ⟨20, rfl, by decide, by decide⟩
      · exact ⟨40, rfl, by decide, by decide⟩
    refine ⟨_, _, _, _, rfl, rfl, SqL.of e2, hm, ?_⟩
    obtain ⟨f2, p2, cs2, D2, c2, kk2⟩ := S2
    refine ⟨d, sl, f2, p2, cs2, m, rfl, D2, by omega, m0, by omega, fun G3 f3 p3 cs3 u D3 c3 k3 u0 u1 => ?_⟩
    refine ⟨_, _, rfl, rfl, ?_⟩
    have kk3 := kk2.trans k3
    refine ⟨_, rfl, 1 + u, rfl, by omega, by omega, fun R hR => ?_⟩
    have nR : R ∉ [d, sl] := D3.ned hR
    have hR0 : H R = none := kk3.free hR nR
    have sR : Same G3 (upd G3 R (.lst [])) := Same.new (Same.refl _) hR
    have Rd : R ≠ d := fun z => nR (by simp [z])
    have Rs : R ≠ sl := fun z => nR (by simp [z])
    refine lc_it walk_range (fun i H4 => ∃ (f4 p4 : Int) (cs4 : List Int) (rs : List Addr) (prog : List Row), DiceAt H4 d sl f4 p4 cs4 ∧ cs4.length = cs.length ∧ Kept [d, sl] H H4 ∧ TupsAt H4 R rs (prog.map Row.vs) ∧ prog.length = i ∧ (∀ r ∈ prog, r.ok (1 + u).toNat) ∧ (st = true → Straight prog))
      ⟨f3, p3, cs3, [], [], D3.same sR, by omega, kk3.new hR0, ⟨upd_same, rfl, fun j p vs e => by simp at e⟩, rfl, by simp, fun _ => by intro r hr; simp at hr⟩ (fun i H4 _ _ => trivial) ?_ ?_
    · rintro i x H4 H5 hi ⟨f4, p4, cs4, rs, prog, D4, c4, k4, tp, hl, ok, hs⟩ ⟨rfl, rfl⟩
      refine ⟨rfl, yes ?_⟩
      refine ⟨_, rfl, _, rfl, _, rfl, d, sl, f4, p4, cs4, 1 + u, st, rfl, D4, by omega, by omega, by omega, fun H6 f6 p6 cs6 t r D6 c6 k6 nt ht rok rst => ?_⟩
      have hR6 := k6 _ _ tp.lst nR
      have tk6 : Tk _ H6 := StD.tk (H := H) (n := cs.length) ⟨f4, p4, cs4, D4, c4, k4⟩ k6
      refine ⟨_, hR6, by rw [List.length_map, tp.len, List.length_map, hl]; exact Nat.lt_of_lt_of_le hi (Nat.le_trans (show (1 + u).toNat ≤ 40 by omega) (by decide)), f6, p6, cs6, rs ++ [t], prog ++ [r], ?_, by omega, (k4.trans k6).new hR0, ?_, by simp [hl], fun r' hr' => ?_, fun h r' hr' => ?_⟩
      · exact ⟨by rw [upd_ne (Ne.symm Rd)]; exact D6.ob, by rw [upd_ne (Ne.symm Rs)]; exact D6.ls, D6.f0, D6.f1, D6.p0, D6.ne⟩
      · rw [List.map_append]
        refine tups_snoc tp (by rw [upd_same, List.map_append]; rfl) ?_ (fun q us e => ?_)
        · rw [upd_ne (ne_of ht hR6 (by intro z; cases z))]
          exact ht
        · have e6 := tk6 _ _ e
          rw [upd_ne (ne_of e6 hR6 (by intro z; cases z))]
          exact e6
      · rcases List.mem_append.mp hr' with z | z
        · exact ok r' z
        · have e : r' = r := by simpa using z
          rw [e]
          exact rok
      · rcases List.mem_append.mp hr' with z | z
        · exact hs h r' z
        · have e : r' = r := by simpa using z
          rw [e]
          exact rst h
    · rintro H4 ⟨f4, p4, cs4, rs, prog, D4, c4, k4, tp, hl, ok, hs⟩
      refine ⟨_, _, rfl, .inl ⟨SqL.of tp.lst, fun pa hpa => ?_⟩⟩
      have s5 : Same H4 (upd H4 pa (.tup (rs.map V.ref))) := Same.new (Same.refl _) hpa
      have npa : H pa = none := k4.free hpa (D4.ned hpa)
      refine q _ f4 p4 cs4 pa rs prog (D4.same s5) c4 (k4.trans (Kept.same s5)) npa ⟨SqT.of upd_same, by rw [tp.len, List.length_map], fun j t r e1 e2 => SqT.of (s5 _ _ (tp.at_ j t _ e1 (by rw [List.getElem?_map, e2]; rfl)))⟩ (by omega) (by omega) ?_ hs
      intro r hr
      have := ok r hr
      rw [← hl] at this
      exact this
end
end SB

set_option Elab.async false
set_option linter.all false
set_option maxRecDepth 100000
set_option maxHeartbeats 2000000
namespace SB
open PySem L2
def rInT (K : PySem.W.Frag) : R2 := fun x y H Q => ∃ d ds, Dp K H x d ∧ Dp K H y (.tuple ds) ∧ SeqAt.shaped d = true ∧ SeqAt.shaped (.tuple ds) = true ∧ Q (.bl (ds.any fun z => PyData.eqv z d)) H
theorem op_inT {X : Cx} (hu : X.A.units + 65 < cLine) : OpR X (compareOp .In) (rInT X.K) := by
  intro pins s σ H x y v u Q I rx ry h
  obtain ⟨d, ds, hd, he, sd, se, q⟩ := h
  obtain ⟨as, r1⟩ := Dp.reads I d x v hd rx
  obtain ⟨bs, r2⟩ := Dp.reads I (.tuple ds) y u he ry
  exact SeqAt.in_tuple_reads r2 r1 (SeqAt.canLay_of_shaped se) (SeqAt.canLay_of_shaped sd) (PyProof.Rows.room_in_shaped sd hu) ⟨.bl _, H, I, rfl, q⟩
structure WaA where
  (wt dw dn ob pr gl : Addr)
  fg : Option Addr
  f : FA
def WaA.own (b : WaA) : List Addr := [b.wt, b.dn, b.ob, b.pr, b.gl]
def WaA.foot (b : WaA) : List Addr := b.own ++ b.f.foot
structure WatchAt (K : PySem.W.Frag) (H : Hp) (b : WaA) (s : HS) (g : GH) (n : Nat) (dnf : Int → Option Int) : Prop where
  wo : H b.wt = some (.ins (cWatch K) b.dw (waF ⟨b.f.h, b.dn, b.ob, b.pr, b.fg, b.gl⟩))
  fl : FlAt K H b.f s g
  dn : ∃ kvs : List (Key × V), H b.dn = some (.dK kvs) ∧ kvs.length ≤ n ∧ ∀ r : Int, valV kvs (.inl r) = (dnf r).map V.int
  ob : ∃ kvs : List (Key × V), H b.ob = some (.dK kvs) ∧ kvs.length ≤ n
  pr : ∃ xs, H b.pr = some (.lst xs) ∧ xs.length ≤ n
  gl : H b.gl = some (.lst (b.f.da.gas.map fun x => V.ref x.g))
  glen : g.G.length ≤ 1001 * n
  ap : ∀ x ∈ b.own, x ∉ b.f.foot
  nal : ∀ x ∈ b.own, x ≠ b.f.al
  nd : b.own.Nodup
def HS.doneB (s : HS) : Bool := match s.ent.2 with
  | .waits => false
  | .ends => false
  | _ => decide (s.next.S.spent = 0)
def dnext (s : HS) (dnf : Int → Option Int) : Int → Option Int := fun r => if s.doneB = true ∧ s.S.row = r then (match dnf r with
  | none => some s.beats
  | some x => some x) else dnf r
theorem gnext_nb (s : HS) (g : GH) : (s.gnext g).nb = g.G.length ∧ (s.gnext g).G.length ≤ g.G.length + 8 + 1 + 1 ∨ 8 < (askedOf s).length := by
  by_cases h8 : (askedOf s).length ≤ 8
  · refine .inl ?_
    have h1 := GH.startAll_len (ns := askedOf s) (g := ({ g with nb := g.G.length } : GH))
    have h2 := devG_len (ks := askAll s.beats s.ks s.asks) (took := s.took) (wanted := (wantedOf s.prog s.S).isSome) (ms := s.S.marks) (ws := s.ws) (when := s.beats) (g := s.wake g)
    have h3 : ∀ (g : GH) (r : Row), (effG g r).G.length ≤ g.G.length + 1 ∧ (effG g r).nb = g.nb := fun g r => by
      cases r <;> first | exact ⟨Nat.le_succ _, rfl⟩ | exact GH.start_len
    have h4 : ∀ g : GH, (mstepG s.prog s.S s.dm.2.1 g).G.length ≤ g.G.length + 1 ∧ (mstepG s.prog s.S s.dm.2.1 g).nb = g.nb := fun g => by
      unfold mstepG
      cases s.prog[s.S.row.toNat]? with
      | none => exact ⟨Nat.le_succ _, rfl⟩
      | some r =>
        cases hw : r.word s.S.spent s.S.cells with
        | none =>
          simp only [hw]
          split
          · exact h3 g r
          · exact ⟨Nat.le_succ _, rfl⟩
        | some z =>
          simp only [hw]
          split
          · exact ⟨Nat.le_succ _, rfl⟩
          · split
            · exact h3 g r
            · exact ⟨Nat.le_succ _, rfl⟩
    have h5 := h4 (s.gmove g)
    have e1 : (s.wake g) = ({ g with nb := g.G.length } : GH).startAll (askedOf s) := rfl
    have e2 : (s.gmove g) = devG (askAll s.beats s.ks s.asks) s.took (wantedOf s.prog s.S).isSome s.S.marks s.ws s.beats (s.wake g) := rfl
    have e3 : (({ g with nb := g.G.length } : GH)).G.length = g.G.length := rfl
    have e4 : (({ g with nb := g.G.length } : GH)).nb = g.G.length := rfl
    rw [← e1] at h1
    rw [← e2] at h2
    rw [e3, e4] at h1
    show (mstepG s.prog s.S s.dm.2.1 (s.gmove g)).nb = _ ∧ (mstepG s.prog s.S s.dm.2.1 (s.gmove g)).G.length ≤ _
    omega
  · exact .inr (by omega)
section
variable {P : Program} {w : World} {K : PySem.W.Frag} {mg : Str → Option Value} {base : Heap} {H H' : Hp}
def sp_Watch_note_get (K : PySem.W.Frag) : Sp := fun vs H Q _ => ∃ (wt dw : Addr) (k : Wa) (xs : List V) (row when ad : Int) (last : Bool), vs = [.ref wt, .int row, .int when, .int ad, .bl last] ∧ H wt = some (.ins (cWatch K) dw (waF k)) ∧ H k.pairs = some (.lst xs) ∧ xs.length < 1000 ∧
  ∀ H' fg' xs', H' wt = some (.ins (cWatch K) dw (waF { k with first_get := fg' })) → H' k.pairs = some (.lst xs') → xs'.length ≤ xs.length + 1 → Kept [wt, k.pairs] H H' → (∀ b, H' b = none → H b = none) → Q .non H'
theorem ok_Watch_note_get (T : T w K mg) : FnR P w K mg base CX0 1 (He.ma K (He.ga K "Watch") "note_get") (sp_Watch_note_get K) := by
  obtain ⟨fd, F⟩ := T.f_Watch_note_get
  refine F.r sc_Watch_note_get (fun _ _ _ _ _ _ us hl => match us, hl with | [_, _, _, _, _], _ => rfl) (fun vs H Q E h => ?_) (fun cdv A outer s0 H vs Q E hr h => ?_)
  · obtain ⟨_, _, _, _, _, _, _, _, rfl, _⟩ := h
    rfl
  · obtain ⟨wt, dw, k, xs, row, when, ad, last, rfl, hw, hp, hl, q⟩ := h
    refine ⟨_, (pss_one (ps_if (pt_val (pv 4))
  (pss_one (ps_expr (pe_bm PySem.F.plainAttrs_list PySem.F.slot_list_append PySem.F.type_list_append mt_append (pe_fld (pv 0) rfl) (pa_cons (pe_tup (pa_cons (pv 1) (pa_cons (pe_fld (pv 0) rfl) (pa_cons (pe_tup (pa_cons (pv 2) (pa_cons (pv 3) pa_nil))) pa_nil)))) pa_nil))))
  (pss_one (ps_fld (pv 0) (pe_tup (pa_cons (pv 2) (pa_cons (pv 3) pa_nil))) rfl)))), ?_⟩
    have wp : wt ≠ k.pairs := ins_ne_lst hw hp
    cases last with
    | true =>
      refine ⟨_, rfl, _, rfl, iteT ?_⟩
      refine ⟨_, rfl, _, _, _, _, _, rfl, hw, T.cl_Watch, T.n_Watch_pairs, wa_pairs _, ?_⟩
      refine ⟨.inl ⟨rfl, _, SqL.of hp⟩, ?_⟩
      refine ⟨_, rfl, ?_⟩
      refine ⟨_, rfl, _, _, _, _, _, rfl, hw, T.cl_Watch, T.n_Watch_first_get, wa_first_get _, ?_⟩
      refine ⟨_, rfl, _, rfl, by show 2 ≤ sizeLine; decide, fun t1 n1 => ?_⟩
      have s1 : Same H (upd H t1 (.tup [.int when, .int ad])) := Same.new (Same.refl _) n1
      generalize upd H t1 (.tup [.int when, .int ad]) = H1 at s1
      refine ⟨by show 3 ≤ sizeLine; decide, fun t2 n2 => ?_⟩
      have s2 : Same H1 (upd H1 t2 (.tup [.int row, oA k.first_get, .ref t1])) := Same.new (Same.refl _) n2
      generalize upd H1 t2 (.tup [.int row, oA k.first_get, .ref t1]) = H2 at s2
      have s12 := s1.trans s2
      refine ⟨_, _, _, rfl, rfl, s12 _ _ hp, by exact Nat.lt_of_lt_of_le hl (by decide), ?_⟩
      refine q _ k.first_get (xs ++ [.ref t2]) ?_ upd_same (by simp) ((Kept.same s12).put (by simp)) (fun b hb => Same.free s12 (upd_none hb))
      rw [upd_ne wp]
      exact s12 _ _ hw
    | false =>
      refine ⟨_, rfl, _, rfl, iteF ?_⟩
      refine ⟨_, rfl, _, rfl, by show 2 ≤ sizeLine; decide, fun t1 n1 => ?_⟩
      have s1 : Same H (upd H t1 (.tup [.int when, .int ad])) := Same.new (Same.refl _) n1
      generalize upd H t1 (.tup [.int when, .int ad]) = H1 at s1
      refine stf (s1 _ _ hw) T.cl_Watch T.n_Watch_first_get (wa_len _) (wa_put_first_getS _ _) ?_
      refine q _ (some t1) xs upd_same ?_ (Nat.le_succ _) ((Kept.same s1).put (by simp)) (fun b hb => Same.free s1 (upd_none hb))
      rw [upd_ne (Ne.symm wp)]
      exact s1 _ _ hp
end
end SB

set_option Elab.async false
set_option linter.all false
set_option maxRecDepth 100000
set_option maxHeartbeats 2000000
namespace SB
open PySem L2
theorem in_wordless {m : MT} : ([.str "waits", .str "ends"] : List PyData).any (fun z => PyData.eqv z (dM m)) = (match m with | .waits => true | .ends => true | _ => false) := by
  cases m with
  | word z a v => rfl
  | waits => decide +kernel
  | ends => decide +kernel
  | goes => decide +kernel
theorem at_0' {x : V} {xs : List V} : atI (x :: xs) 0 = some x := by
  unfold atI ixN
  simp
theorem seq_s {a b : TS} {D : Ends} {σ : L2.St} {H : Hp} (h : a { D with nx := b D } σ H) : tSeq a b D σ H := h
theorem viaIfS {tt : TT} {A B : TS} {D0 : Ends} {σ : L2.St} {H : Hp} (J : Hp → Prop) (h : ∀ D : Ends, (∀ H', J H' → D.nx σ H') → tIfS tt A B D σ H) (rest : ∀ H', J H' → D0.nx σ H') : tIfS tt A B D0 σ H := h D0 rest
theorem Row.nm_pair {r : Row} (h : r.nm = "pair") : ∃ a b, r = .pair a b := by
  cases r <;> first | exact ⟨_, _, rfl⟩ | exact absurd h (of_decide_eq_false (by kernel_rfl))
theorem row_there {s : HS} (h1 : s.ent.2 ≠ .waits) (h2 : s.ent.2 ≠ .ends) : ∃ r, s.prog[s.S.row.toNat]? = some r ∧ ((∃ a b, r = .pair a b) → ∃ z a v, s.ent.2 = .word z a v) := by
  have e : s.ent.2 = (mstep s.prog s.S s.dm.1 s.dm.2.1 s.dm.2.2.1).2.2.2 := rfl
  rw [e] at h1 h2 ⊢
  unfold mstep at h1 h2 ⊢
  cases hr : s.prog[s.S.row.toNat]? with
  | none => rw [hr] at h2; exact absurd rfl h2
  | some r =>
    refine ⟨r, rfl, fun ⟨a, b, hp⟩ => ?_⟩
    subst hp
    rw [hr] at h1
    have ew : (Row.pair a b).word s.S.spent s.S.cells = some (("get" : Str), b + s.S.spent, a + s.S.spent) := rfl
    simp only [ew] at h1 ⊢
    split at h1
    · exact absurd rfl h1
    · rename_i hn
      rw [if_neg hn]
      exact ⟨_, _, _, rfl⟩
section
variable {P : Program} {w : World} {K : PySem.W.Frag} {mg : Str → Option Value} {base : Heap} {H H' : Hp}
theorem WatchAt.inF {b : WaA} {s : HS} {g : GH} {n : Nat} {dnf : Int → Option Int} (A : WatchAt K H b s g n dnf) : ∀ x ∈ b.foot, ∃ u, H x = some u ∧ notTup u = true := fun x hx => by
  rcases List.mem_append.mp hx with hx | hx
  · unfold WaA.own at hx
    simp only [List.mem_cons] at hx
    obtain ⟨kv, h1, _⟩ := A.dn
    obtain ⟨kv2, h2, _⟩ := A.ob
    obtain ⟨xs, h3, _⟩ := A.pr
    rcases hx with rfl | rfl | rfl | rfl | rfl | hx
    · exact ⟨_, A.wo, rfl⟩
    · exact ⟨_, h1, rfl⟩
    · exact ⟨_, h2, rfl⟩
    · exact ⟨_, h3, rfl⟩
    · exact ⟨_, A.gl, rfl⟩
    · cases hx
  · exact A.fl.inF x hx
theorem FlAt.own {f : FA} {s : HS} {g : GH} (L : FlAt K H f s g) {o : List Addr} (k : Kept o H H') (h1 : ∀ x ∈ o, x ∉ f.foot) (h2 : ∀ x ∈ o, x ≠ f.al) (hn : ∀ x ∈ o, ∃ u, H x = some u ∧ notTup u = true) : FlAt K H' f s g :=
  L.stay k (fun b hb z => h1 b z hb) (fun z => h2 _ z rfl) hn
def sp_Watch_step (K : PySem.W.Frag) : Sp := fun vs H Q _ => ∃ (b : WaA) (s : HS) (g : GH) (n : Nat) (dnf : Int → Option Int), vs = [.ref b.wt] ∧ WatchAt K H b s g n dnf ∧ HOk s ∧ n < 900 ∧
  ∀ H' b', b'.wt = b.wt → b'.dn = b.dn → WatchAt K H' b' s.next (s.gnext g) (n + 1) (dnext s dnf) → Step b.foot H b'.foot H' → Q .non H'
theorem ok_Watch_step (T : T w K mg) : FnR P w K mg base CX0 7 (He.ma K (He.ga K "Watch") "step") (sp_Watch_step K) := by
  have F_Floor_pass_beat : FnR P w K mg base CX0 6 _ _ := ok_Floor_pass_beat T
  have F_Watch_note_get : FnR P w K mg base CX0 1 _ _ := ok_Watch_note_get T
  have F_Device_numbers_on : FnR P w K mg base CX0 2 _ _ := ok_Device_numbers_on T
  obtain ⟨fd, F⟩ := T.f_Watch_step
  refine F.r sc_Watch_step (fun _ _ _ _ _ _ us hl => match us, hl with | [_], _ => rfl) (fun vs H Q E h => ?_) (fun cdv A outer s0 H vs Q E hr h => ?_)
  · obtain ⟨_, _, _, _, _, rfl, _⟩ := h
    rfl
  · obtain ⟨b, s, g, n, dnf, rfl, W, O, n900, q⟩ := h
    have hu := hr.units
    have hu1 : (A.deeper (PyProof.Rows.envOfC "Watch.step" (defScope s_Watch_step) s0.heap.objs.size (He.ma K (He.ga K "Watch") "step") cdv)).units + 1 < cLine := by omega
    have hu65 : (A.deeper (PyProof.Rows.envOfC "Watch.step" (defScope s_Watch_step) s0.heap.objs.size (He.ma K (He.ga K "Watch") "step") cdv)).units + 65 < cLine := by have := hr.un; omega
    refine ⟨_, (pss_cons (ps_set (i := 1) sc_Watch_step.nd rfl (Or.inl rfl) (pe_fld (pv 0) rfl))
  (pss_cons (ps_par rfl sc_Watch_step.nd (i := 2) (j := 3) rfl rfl (by decide) rfl rfl (pa_cons (pe_fld (pv 1) rfl) (pa_cons (pe_fld (pe_fld (pv 1) rfl) rfl) pa_nil)) rfl)
  (pss_cons (ps_asg (pe_mth0R (pv 1) T.cl_Floor T.m_Floor_pass_beat F_Floor_pass_beat (hr.mono (by decide))) (pg_tup rfl (pgs_cons (pg_name (i := 4) sc_Watch_step.nd rfl (Or.inl rfl)) (pgs_cons (pg_name (i := 5) sc_Watch_step.nd rfl (Or.inl rfl)) pgs_nil))))
  (pss_cons (ps_expr (pe_bm PySem.F.plainAttrs_list PySem.F.slot_list_extend PySem.F.type_list_extend mt_extend (pe_fld (pv 0) rfl) (pa_cons (pe_fld (pe_fld (pv 1) rfl) rfl) pa_nil)))
  (pss_cons (ps_if (pt_cmpR (op_inT hu65) (pv 5) (pe_tup (pa_cons pe_str (pa_cons pe_str pa_nil))) rfl)
  (pss_one ps_retN)
  pss_nil)
  (pss_cons (ps_set (i := 6) sc_Watch_step.nd rfl (Or.inl rfl) (pe_cmpR op_eq (pe_fld (pe_fld (pv 1) rfl) rfl) pe_int (nomark _)))
  (pss_cons (ps_if (pt_cmpR op_eq (pe_ix ix_tup (pe_ix ix_tup (pe_fld (pe_fld (pv 1) rfl) rfl) (pv 3) (fun _ _ => rfl)) pe_int (fun _ _ => rfl)) pe_str (nomark _))
  (pss_one (ps_expr (pe_mthR (pv 0) T.cl_Watch T.m_Watch_note_get F_Watch_note_get (hr.mono (by decide)) (pa_cons (pv 3) (pa_cons (pv 2) (pa_cons (pe_ix ix_tup (pv 5) pe_int (fun _ _ => rfl)) (pa_cons (pv 6) pa_nil)))))))
  pss_nil)
  (pss_one (ps_if (PW.pt (pw_and (pt_val (pv 6)) (pw_and1 (pt_cmp (pc_dnotin hu1 (pv 3) (pe_fld (pv 0) rfl))))))
  (pss_cons (ps_asg (pv 2) (pg_sub (pe_fld (pv 0) rfl) (pv 3) (set_dict hu1)))
  (pss_one (ps_asg (pe_mth0R (pe_fld (pv 1) rfl) T.cl_Device T.m_Device_numbers_on F_Device_numbers_on (hr.mono (by decide))) (pg_sub (pe_fld (pv 0) rfl) (pv 3) (set_dict hu1)))))
  pss_nil))))))))), ?_⟩
    obtain ⟨kvs, hdn, ldn, vdn⟩ := W.dn
    obtain ⟨kvs2, hob, lob⟩ := W.ob
    obtain ⟨xs, hpr, lpr⟩ := W.pr
    have nd := W.nd
    simp only [WaA.own, List.nodup_cons, List.mem_cons, List.not_mem_nil, or_false, not_or, not_false_eq_true, List.nodup_nil, and_true] at nd
    obtain ⟨⟨w1, w2, w3, w4⟩, ⟨d2, d3, d4⟩, ⟨o3, o4⟩, p4⟩ := nd
    refine ⟨_, rfl, _, _, _, _, _, rfl, W.wo, T.cl_Watch, T.n_Watch_floor, wa_floor _, ?_⟩ -- floor = self.floor
    refine ⟨_, rfl, _, _, _, _, _, rfl, W.fl.ob, T.cl_Floor, T.n_Floor_beats, fl_beats _, ?_⟩
    refine ⟨_, rfl, _, _, _, _, _, rfl, W.fl.ob, T.cl_Floor, T.n_Floor_machine, fl_machine _, ?_⟩
    refine ⟨_, _, _, _, _, rfl, W.fl.mc.ob, T.cl_Machine, T.n_Machine_row, mc_row _, ?_⟩
    refine ⟨_, _, rfl, ?_⟩ -- when, row
    refine ⟨_, rfl, _, _, _, rfl, W.fl.ob, fl_no_pass_beat _, ?_⟩
    refine ⟨b.f, s, g, rfl, W.fl, O, fun H1 f1 v le1 F1 st1 tb => ?_⟩ -- floor.pass_beat()
    obtain ⟨p, v1, v2, rfl, Ee, np⟩ := tb.ent
    refine ⟨p, _, rfl, SqT.of Ee.tup, rfl, _, _, rfl, _, _, rfl, rfl, ?_⟩ -- moved, did
    have own1 : ∀ {x : Addr} {o : HO}, x ∈ b.own → H x = some o → H1 x = some o := fun hx h => st1.kp _ _ h (W.ap _ hx)
    have ap1 : ∀ x ∈ b.own, x ∉ f1.foot := fun x hx => by
      obtain ⟨u, hu, _⟩ := W.inF x (List.mem_append.mpr (.inl hx))
      exact st1.apart hu (W.ap x hx)
    have nal1 : ∀ x ∈ b.own, x ≠ f1.al := fun x hx => by rw [le1.al]; exact W.nal x hx
    have m0 : b.wt ∈ b.own := by simp [WaA.own]
    have m1 : b.dn ∈ b.own := by simp [WaA.own]
    have m2 : b.ob ∈ b.own := by simp [WaA.own]
    have m3 : b.pr ∈ b.own := by simp [WaA.own]
    have m4 : b.gl ∈ b.own := by simp [WaA.own]
    have wo1 := own1 m0 W.wo
    have hdn1 := own1 m1 hdn
    have hob1 := own1 m2 hob
    have hpr1 := own1 m3 hpr
    have hgl1 := own1 m4 W.gl
    have gnb : (s.gnext g).nb = g.G.length ∧ (s.gnext g).G.length ≤ g.G.length + 8 + 1 + 1 := by
      rcases gnext_nb s g with h | h
      · exact h
      · have h8 : (askedOf s).length ≤ 8 := by
          unfold askedOf
          rw [List.length_map]
          exact Nat.le_trans (List.length_filter_le _ _) O.a8
        omega
    obtain ⟨rr, hrr⟩ := le1.d.gs
    have edrop : (b.f.da.gas.map fun x => V.ref x.g) ++ ((f1.da.gas.drop (s.gnext g).nb).map fun x => V.ref x.g) = f1.da.gas.map fun x => V.ref x.g := by
      have e1 : ∀ l : List GA, (l.map fun x => V.ref x.g) = (l.map (·.g)).map V.ref := fun l => by rw [List.map_map]; rfl
      rw [e1, e1, e1, List.map_drop, hrr, gnb.1, ← W.fl.dv.glen, List.drop_left' (by rw [List.length_map]), List.map_append]
    have glen1 : (s.gnext g).G.length ≤ 1001 * (n + 1) := by
      have := W.glen
      omega
    have gl1len : f1.da.gas.length ≤ 1001 * (n + 1) := by rw [F1.dv.glen]; exact glen1
    refine ⟨_, rfl, _, _, _, _, _, rfl, wo1, T.cl_Watch, T.n_Watch_goings, wa_goings _, ?_⟩
    refine ⟨.inl ⟨rfl, _, SqL.of hgl1⟩, ?_⟩
    refine ⟨_, rfl, _, _, _, _, _, rfl, by rw [← le1.h]; exact F1.ob, T.cl_Floor, T.n_Floor_device, fl_device _, ?_⟩
    refine ⟨_, _, _, _, _, rfl, F1.dv.ob, T.cl_Device, T.n_Device_begun, dv_begun _, ?_⟩
    refine ⟨_, _, _, _, rfl, rfl, hgl1, F1.dv.bg, ?_, ?_⟩ -- goings.extend(..)
    · have := congrArg List.length edrop
      rw [List.length_append] at this
      rw [this, List.length_map]
      exact Nat.le_trans gl1len (Nat.le_trans (Nat.mul_le_mul_left _ (show n + 1 ≤ 1000 by omega)) (by decide))
    rw [edrop]
    generalize eH2 : upd H1 b.gl _ = H2
    have k2 : Kept [b.gl] H1 H2 := by rw [← eH2]; exact (Kept.refl _ _).put (by simp)
    have fr2 : ∀ x, H2 x = none → H1 x = none := fun x hx => by rw [← eH2] at hx; exact upd_none hx
    have in1 : ∀ x ∈ [b.gl], ∃ u, H1 x = some u ∧ notTup u = true := fun x hx => by
      have e : x = b.gl := by simpa using hx
      rw [e]
      exact ⟨_, hgl1, rfl⟩
    have F2 : FlAt K H2 f1 s.next (s.gnext g) := F1.own k2 (fun x hx => by
      have e : x = b.gl := by simpa using hx
      rw [e]
      exact ap1 _ m4) (fun x hx => by
      have e : x = b.gl := by simpa using hx
      rw [e]
      exact nal1 _ m4) in1
    have wo2 := k2 _ _ wo1 (by simpa using w4)
    have hdn2 := k2 _ _ hdn1 (by simpa using d4)
    have hob2 := k2 _ _ hob1 (by simpa using o4)
    have hpr2 := k2 _ _ hpr1 (by simpa using p4)
    have hgl2 : H2 b.gl = some (.lst (f1.da.gas.map fun x => V.ref x.g)) := by rw [← eH2]; exact upd_same
    have Ee2 := Ee.keep (Tk.of k2 in1)
    have st2 : Step b.foot H (b.own ++ f1.foot) H2 := by
      have s1 : Step b.foot H (b.own ++ f1.foot) H1 := (st1.more b.own).all
      refine s1.trans (Step.of (k2.mono (fun x hx => ?_)) fr2)
      have e : x = b.gl := by simpa using hx
      rw [e]
      exact List.mem_append.mpr (.inl m4)
    clear eH2
    refine ⟨_, rfl, by show 2 ≤ sizeLine; decide, fun t nt => ?_⟩
    have s3 : Same H2 (upd H2 t (.tup [.str "waits", .str "ends"])) := Same.new (Same.refl _) nt
    have ht : upd H2 t (.tup [.str "waits", .str "ends"]) t = some (.tup [.str "waits", .str "ends"]) := upd_same
    generalize upd H2 t (.tup [.str "waits", .str "ends"]) = H3 at s3 ht
    have Ee3 := Ee2.keep (Tk.same s3)
    have F3 := F2.same s3
    have wo3 := s3 _ _ wo2
    have hdn3 := s3 _ _ hdn2
    have hob3 := s3 _ _ hob2
    have hpr3 := s3 _ _ hpr2
    have hgl3 := s3 _ _ hgl2
    have st3 : Step b.foot H (b.own ++ f1.foot) H3 := st2.trans (Step.same s3)
    have eok := ent_ok s
    have shD : SeqAt.shaped (dM s.ent.2) = true := by
      unfold SeqAt.shaped
      rw [dM_lay eok.2]
      have := dM_deep s.ent.2
      simp only [Bool.true_and, decide_eq_true_eq]
      omega
    refine ⟨dM s.ent.2, [.str "waits", .str "ends"], Ee3.m.dp, .tup (SqT.of ht) (.cons (.str _) (.cons (.str _) .nil)), shD, by decide +kernel, _, rfl, ?_⟩
    rw [in_wordless]
    have wo3' : H3 b.wt = some (.ins (cWatch K) b.dw (waF ⟨f1.h, b.dn, b.ob, b.pr, b.fg, b.gl⟩)) := by rw [le1.h]; exact wo3
    /- a beat in which no row is done -/
    have none3 : s.doneB = false → dnext s dnf = dnf := fun h => by
      funext r
      unfold dnext
      rw [h, if_neg (fun z => by cases z.1)]
    /- what there is at last -/
    have fin : ∀ (H' : Hp) (fg : Option Addr), H' b.wt = some (.ins (cWatch K) b.dw (waF ⟨f1.h, b.dn, b.ob, b.pr, fg, b.gl⟩)) → FlAt K H' f1 s.next (s.gnext g) → (∃ kvs : List (Key × V), H' b.dn = some (.dK kvs) ∧ kvs.length ≤ n + 1 ∧ ∀ r : Int, valV kvs (.inl r) = (dnext s dnf r).map V.int) → (∃ kvs : List (Key × V), H' b.ob = some (.dK kvs) ∧ kvs.length ≤ n + 1) →
        (∃ xs, H' b.pr = some (.lst xs) ∧ xs.length ≤ n + 1) → H' b.gl = some (.lst (f1.da.gas.map fun x => V.ref x.g)) → Step b.foot H (b.own ++ f1.foot) H' → Q .non H' := fun H' fg a1 a2 a3 a4 a5 a6 a7 =>
      q H' ⟨b.wt, b.dw, b.dn, b.ob, b.pr, b.gl, fg, f1⟩ rfl rfl ⟨a1, a2, a3, a4, a5, a6, glen1, ap1, nal1, W.nd⟩ a7
    have over : ∀ {A B : Prop}, s.ent.2 = .waits ∨ s.ent.2 = .ends → Q .non H3 := fun {A B} hm => by
      have hd : s.doneB = false := by
        unfold HS.doneB
        rcases hm with h | h <;> rw [h]
      refine fin H3 b.fg wo3' F3 ⟨kvs, hdn3, by omega, by rw [none3 hd]; exact vdn⟩ ⟨kvs2, hob3, by omega⟩ ⟨xs, hpr3, by omega⟩ hgl3 st3
    by_cases hw1 : s.ent.2 = .waits
    · rw [hw1]
      exact iteT (over (A := True) (B := True) (.inl hw1))
    by_cases hw2 : s.ent.2 = .ends
    · rw [hw2]
      exact iteT (over (A := True) (B := True) (.inr hw2))
    have hno : (match s.ent.2 with | .waits => true | .ends => true | _ => false) = false := by
      cases h : s.ent.2 with
      | waits => exact absurd h hw1
      | ends => exact absurd h hw2
      | goes => rfl
      | word z a v => rfl
    have hdone : s.doneB = decide (s.next.S.spent = 0) := by
      unfold HS.doneB
      cases h : s.ent.2 with
      | waits => exact absurd h hw1
      | ends => exact absurd h hw2
      | goes => rfl
      | word z a v => rfl
    rw [hno]
    refine iteF ?_
    obtain ⟨r, hrow, hpair⟩ := row_there hw1 hw2
    refine ⟨_, rfl, _, _, _, _, _, rfl, by rw [← le1.h]; exact F3.ob, T.cl_Floor, T.n_Floor_machine, fl_machine _, ?_⟩
    refine ⟨_, _, _, _, _, rfl, F3.mc.ob, T.cl_Machine, T.n_Machine_spent, mc_spent _, rfl, ?_⟩ -- last
    dsimp only [gName]
    rw [dec_int']
    refine seq_s ?_
    have row0 : 0 ≤ s.S.row := O.m.row0
    refine viaIfS (fun H4 => ∃ fg xs', H4 b.wt = some (.ins (cWatch K) b.dw (waF ⟨f1.h, b.dn, b.ob, b.pr, fg, b.gl⟩)) ∧ FlAt K H4 f1 s.next (s.gnext g) ∧ H4 b.dn = some (.dK kvs) ∧ H4 b.ob = some (.dK kvs2) ∧ H4 b.pr = some (.lst xs') ∧ xs'.length ≤ n + 1 ∧ H4 b.gl = some (.lst (f1.da.gas.map fun x => V.ref x.g)) ∧ Step b.foot H (b.own ++ f1.foot) H4) (fun D nx => ?_) ?_
    · obtain ⟨t', e1, hrt⟩ := F3.mc.pr.get hrow
      refine ⟨_, rfl, _, _, _, _, _, rfl, by rw [← le1.h]; exact F3.ob, T.cl_Floor, T.n_Floor_machine, fl_machine _, ?_⟩
      refine ⟨_, _, _, _, _, rfl, F3.mc.ob, T.cl_Machine, T.n_Machine_program, mc_program _, ?_⟩
      refine ⟨_, rfl, _, _, _, _, rfl, rfl, F3.mc.pr.tup, at_rf row0 e1, ?_⟩
      refine ⟨_, _, _, .str r.nm, rfl, rfl, hrt, by rw [Row.vs_eq]; exact at_0', rfl, _, rfl, ?_⟩
      rw [dec_str]
      by_cases hpz : r.nm = "pair"
      · rw [decide_eq_true hpz]
        refine iteT ?_
        obtain ⟨z, ad, v, hent⟩ := hpair (Row.nm_pair hpz)
        have m3' := Ee3.m
        rw [hent] at m3'
        obtain ⟨q2, e2, hq2⟩ := m3'
        subst e2
        refine ⟨_, rfl, _, _, _, rfl, wo3', wa_no_note_get _, ?_⟩
        refine ⟨_, rfl, _, rfl, _, rfl, _, _, _, _, rfl, rfl, SqT.of hq2, rfl, _, rfl, ?_⟩
        refine ⟨b.wt, b.dw, _, xs, _, _, ad, _, rfl, wo3', hpr3, by omega, fun H4 fg' xs' a1 a2 a3 k4 fr4 => ?_⟩
        have in4 : ∀ x ∈ [b.wt, b.pr], ∃ u, H3 x = some u ∧ notTup u = true := fun x hx => by
          have e : x = b.wt ∨ x = b.pr := by simpa using hx
          rcases e with rfl | rfl
          · exact ⟨_, wo3', rfl⟩
          · exact ⟨_, hpr3, rfl⟩
        have mem4 : ∀ x ∈ [b.wt, b.pr], x ∈ b.own := fun x hx => by
          have e : x = b.wt ∨ x = b.pr := by simpa using hx
          rcases e with rfl | rfl
          · exact m0
          · exact m3
        refine nx _ ⟨fg', xs', a1, F3.own k4 (fun x hx => ap1 x (mem4 x hx)) (fun x hx => nal1 x (mem4 x hx)) in4, k4 _ _ hdn3 (by simp [Ne.symm w1, d3]), k4 _ _ hob3 (by simp [Ne.symm w2, o3]), a2, by omega, k4 _ _ hgl3 (by simp [Ne.symm w4, Ne.symm p4]), st3.trans (Step.of (k4.mono (fun x hx => List.mem_append.mpr (.inl (mem4 x hx)))) fr4)⟩
      · rw [decide_eq_false hpz]
        exact iteF (nx _ ⟨b.fg, xs, wo3', F3, hdn3, hob3, hpr3, by omega, hgl3, st3⟩)
    rintro H4 ⟨fg, xs', wo4, F4, hdn4, hob4, hpr4, lpr4, hgl4, st4⟩
    refine ⟨_, rfl, _, rfl, ?_⟩
    by_cases hs : s.next.S.spent = 0
    · rw [decide_eq_true hs]
      rw [decide_eq_true hs] at hdone
      refine iteT ?_
      refine ⟨_, rfl, _, rfl, _, _, _, _, _, rfl, wo4, T.cl_Watch, T.n_Watch_dones, wa_dones _, b.dn, _, rfl, DGet.k (k := .inl s.S.row) hdn4, _, rfl, ?_⟩
      rw [vdn]
      cases hd : dnf s.S.row with
      | some x =>
        refine iteF ?_
        have en : dnext s dnf = dnf := by
          funext r'
          unfold dnext
          by_cases hr' : s.S.row = r'
          · subst hr'
            rw [if_pos ⟨hdone, rfl⟩, hd]
          · rw [if_neg (fun z => hr' z.2)]
        exact fin H4 fg wo4 F4 ⟨kvs, hdn4, by omega, by rw [en]; exact vdn⟩ ⟨kvs2, hob4, by omega⟩ ⟨xs', hpr4, lpr4⟩ hgl4 st4
      | none =>
        refine iteT ?_
        refine ⟨_, rfl, _, rfl, _, _, _, _, _, rfl, wo4, T.cl_Watch, T.n_Watch_dones, wa_dones _, _, rfl, b.dn, _, rfl, DPut.k (k := .inl s.S.row) hdn4 (Nat.lt_of_le_of_lt (show kvs.length ≤ 1000 by omega) (by decide)), ?_⟩
        generalize eH5 : upd H4 b.dn _ = H5
        have k5 : Kept [b.dn] H4 H5 := by rw [← eH5]; exact (Kept.refl _ _).put (by simp)
        have fr5 : ∀ x, H5 x = none → H4 x = none := fun x hx => by rw [← eH5] at hx; exact upd_none hx
        have in5 : ∀ x ∈ [b.dn], ∃ u, H4 x = some u ∧ notTup u = true := fun x hx => by
          have e : x = b.dn := by simpa using hx
          rw [e]
          exact ⟨_, hdn4, rfl⟩
        have F5 : FlAt K H5 f1 s.next (s.gnext g) := F4.own k5 (fun x hx => by
          have e : x = b.dn := by simpa using hx
          rw [e]
          exact ap1 _ m1) (fun x hx => by
          have e : x = b.dn := by simpa using hx
          rw [e]
          exact nal1 _ m1) in5
        have wo5 := k5 _ _ wo4 (by simpa using w1)
        have hob5 := k5 _ _ hob4 (by simpa using Ne.symm d2)
        have hpr5 := k5 _ _ hpr4 (by simpa using Ne.symm d3)
        have hgl5 := k5 _ _ hgl4 (by simpa using Ne.symm d4)
        have hdn5 : H5 b.dn = some (.dK (putK kvs (.inl s.S.row) (.int s.beats))) := by rw [← eH5]; exact upd_same
        have st5 : Step b.foot H (b.own ++ f1.foot) H5 := st4.trans (Step.of (k5.mono (fun x hx => by
          have e : x = b.dn := by simpa using hx
          rw [e]
          exact List.mem_append.mpr (.inl m1))) fr5)
        clear eH5
        refine ⟨_, rfl, _, _, _, _, _, rfl, by rw [← le1.h]; exact F5.ob, T.cl_Floor, T.n_Floor_device, fl_device _, ?_⟩
        refine ⟨_, _, _, rfl, F5.dv.ob, dv_no_numbers_on _, ?_⟩
        refine ⟨f1.da, _, _, _, rfl, F5.dv, O.next.l6, fun H6 D nD hD s6 => ?_⟩ -- numbers_on()
        refine ⟨_, rfl, _, _, _, _, _, rfl, s6 _ _ wo5, T.cl_Watch, T.n_Watch_on_behind, wa_on_behind _, _, rfl, b.ob, _, rfl, DPut.k (k := .inl s.S.row) (s6 _ _ hob5) (Nat.lt_of_le_of_lt (show kvs2.length ≤ 1000 by omega) (by decide)), ?_⟩
        generalize eH7 : upd H6 b.ob _ = H7
        have k7 : Kept [b.ob] H6 H7 := by rw [← eH7]; exact (Kept.refl _ _).put (by simp)
        have fr7 : ∀ x, H7 x = none → H6 x = none := fun x hx => by rw [← eH7] at hx; exact upd_none hx
        have in7 : ∀ x ∈ [b.ob], ∃ u, H6 x = some u ∧ notTup u = true := fun x hx => by
          have e : x = b.ob := by simpa using hx
          rw [e]
          exact ⟨_, s6 _ _ hob5, rfl⟩
        have hob7 : ∃ kvs3 : List (Key × V), H7 b.ob = some (.dK kvs3) ∧ kvs3.length ≤ n + 1 := by
          refine ⟨_, by rw [← eH7]; exact upd_same, ?_⟩
          have := length_putK kvs2 (.inl s.S.row : Key) (.ref D)
          omega
        refine fin H7 fg (k7 _ _ (s6 _ _ wo5) (by simpa using w2)) ((F5.same s6).own k7 (fun x hx => by
          have e : x = b.ob := by simpa using hx
          rw [e]
          exact ap1 _ m2) (fun x hx => by
          have e : x = b.ob := by simpa using hx
          rw [e]
          exact nal1 _ m2) in7) ⟨_, k7 _ _ (s6 _ _ hdn5) (by simpa using d2), ?_, fun r' => ?_⟩ hob7 ⟨xs', k7 _ _ (s6 _ _ hpr5) (by simpa using Ne.symm o3), lpr4⟩ (k7 _ _ (s6 _ _ hgl5) (by simpa using Ne.symm o4)) (st5.trans ((Step.same s6).trans (Step.of (k7.mono (fun x hx => by
          have e : x = b.ob := by simpa using hx
          rw [e]
          exact List.mem_append.mpr (.inl m2))) fr7)))
        · have := length_putK kvs (.inl s.S.row : Key) (.int s.beats)
          omega
        · rw [valV_put]
          unfold dnext
          by_cases hr' : s.S.row = r'
          · subst hr'
            rw [if_pos rfl, if_pos ⟨hdone, rfl⟩, hd]
            rfl
          · rw [if_neg (fun z => hr' (by cases z; rfl)), if_neg (fun z => hr' z.2)]
            exact vdn r'
    · rw [decide_eq_false hs]
      rw [decide_eq_false hs] at hdone
      refine iteF (iteF ?_)
      exact fin H4 fg wo4 F4 ⟨kvs, hdn4, by omega, by rw [none3 hdone]; exact vdn⟩ ⟨kvs2, hob4, by omega⟩ ⟨xs', hpr4, lpr4⟩ hgl4 st4
end
end SB

set_option Elab.async false
set_option linter.all false
set_option maxRecDepth 100000
set_option maxHeartbeats 2000000
namespace SB
open PySem L2
def dnN (s : HS) : Nat → Int → Option Int
  | 0 => fun _ => none
  | n + 1 => dnext (s.after n) (dnN s n)
section
variable {P : Program} {w : World} {K : PySem.W.Frag} {mg : Str → Option Value} {base : Heap} {H H' : Hp}
def sp_Watch_run (K : PySem.W.Frag) : Sp := fun vs H Q _ => ∃ (b : WaA) (s : HS) (g : GH) (m : Int), vs = [.ref b.wt, .int m] ∧ WatchAt K H b s g 0 (fun _ => none) ∧ HOk s ∧ 0 ≤ m ∧ m ≤ 300 ∧
  ∀ H' b', b'.wt = b.wt → b'.dn = b.dn → WatchAt K H' b' (s.after m.toNat) (s.gafter g m.toNat) m.toNat (dnN s m.toNat) → Step b.foot H b'.foot H' → Q .non H'
theorem ok_Watch_run (T : T w K mg) : FnR P w K mg base CX0 8 (He.ma K (He.ga K "Watch") "run") (sp_Watch_run K) := by
  have F_Watch_step : FnR P w K mg base CX0 7 _ _ := ok_Watch_step T
  obtain ⟨fd, F⟩ := T.f_Watch_run
  refine F.r sc_Watch_run (fun _ _ _ _ _ _ us hl => match us, hl with | [_, _], _ => rfl) (fun vs H Q E h => ?_) (fun cdv A outer s0 H vs Q E hr h => ?_)
  · obtain ⟨_, _, _, _, rfl, _⟩ := h
    rfl
  · obtain ⟨b, s, g, m, rfl, W, O, m0, m1, q⟩ := h
    refine ⟨_, (pss_one (ps_for PassesOwn.never rfl (pi_range1 rfl T.u_range (pa_cons (pv 1) pa_nil)) (pg_name (i := 2) sc_Watch_run.nd rfl (Or.inl rfl))
  (pss_one (ps_expr (pe_mth0R (pv 0) T.cl_Watch T.m_Watch_step F_Watch_step (hr.mono (by decide))))))), ?_⟩
    refine ⟨_, rfl, m, rfl, by omega, by omega, ?_⟩
    refine for_it walk_range (fun i σ H2 => ∃ v2 b', σ = [some (.ref b.wt), some (.int m), v2] ∧ b'.wt = b.wt ∧ b'.dn = b.dn ∧ WatchAt K H2 b' (s.after i) (s.gafter g i) i (dnN s i) ∧ Step b.foot H b'.foot H2)
      ⟨none, b, rfl, rfl, rfl, W, Step.refl _ _⟩ (fun _ _ _ _ _ => trivial) ?_ ?_
    · rintro i x σ H2 H2' hi ⟨v2, b', rfl, e1, e2, W2, st2⟩ ⟨rfl, rfl⟩
      refine ⟨_, rfl, _, _, _, rfl, by rw [← e1]; exact W2.wo, wa_no_step _, ?_⟩
      refine ⟨b', _, _, i, _, by rw [e1], W2, O.after i, by omega, fun H3 b3 a1 a2 W3 st3 => ?_⟩
      exact ⟨_, b3, rfl, a1.trans e1, a2.trans e2, W3, st2.trans st3⟩
    · rintro σ H2 ⟨v2, b', rfl, e1, e2, W2, st2⟩
      exact q _ b' e1 e2 W2 st2
def sp_Watch_init (K : PySem.W.Frag) : Sp := fun vs H Q _ => ∃ (wt dw pa wl ml al : Addr) (rs ts qs : List Addr) (prog : List Row) (ks : List Wk) (ws : List Int) (as : List (Int × Int)), vs = [.ref wt, .ref pa, .ref wl, .ref ml, .ref al] ∧ H wt = some (.ins (cWatch K) dw []) ∧
  ProgAt K H pa rs prog ∧ WorksAt K H wl ts ks ∧ ks.length ≤ 6 ∧ (∀ k ∈ ks, 0 < k.many ∧ k.many ≤ 16) ∧ SqL K H ml (ws.map V.int) ∧ AsksAt K H al qs as ∧
  ∀ H' (b : WaA), b.wt = wt → WatchAt K H' b (HS.at0 prog as ks ws) (GH.none ks.length) 0 (fun _ => none) → (∀ x ∈ b.foot, x ≠ wt → H x = none) → Kept [wt] H H' → Q .non H'
theorem ok_Watch_init (T : T w K mg) : FnR P w K mg base CX0 7 (He.ma K (He.ga K "Watch") "__init__") (sp_Watch_init K) := by
  have F_Floor_init : FnR P w K mg base CX0 5 _ _ := ok_Floor_init T
  obtain ⟨fd, F⟩ := T.f_Watch_init
  refine F.r sc_Watch_init (fun _ _ _ _ _ _ us hl => match us, hl with | [_, _, _, _, _], _ => rfl) (fun vs H Q E h => ?_) (fun cdv A outer s0 H vs Q E hr h => ?_)
  · obtain ⟨_, _, _, _, _, _, _, _, _, _, _, _, _, rfl, _⟩ := h
    rfl
  · obtain ⟨wt, dw, pa, wl, ml, al, rs, ts, qs, prog, ks, ws, as, rfl, hself, Pr, W, w6, wok, Ml, As, q⟩ := h
    refine ⟨_, (pss_cons (ps_fld (pv 0) (pe_mkR T.mk_Floor F_Floor_init (hr.mono (by decide)) rfl T.g_Floor (pa_cons (pv 1) (pa_cons (pv 2) (pa_cons (pv 3) (pa_cons (pv 4) pa_nil))))) rfl)
  (pss_cons (ps_fld (pv 0) pe_dnewK rfl)
  (pss_cons (ps_fld (pv 0) pe_dnewK rfl)
  (pss_cons (ps_fld (pv 0) (pe_lst pa_nil) rfl)
  (pss_cons (ps_fld (pv 0) pe_non rfl)
  (pss_one (ps_fld (pv 0) (pe_lst pa_nil) rfl))))))), ?_⟩
    refine ⟨_, rfl, _, rfl, _, rfl, _, rfl, ?_⟩
    intro f df nf ndf nef
    have s2 : Same H (upd (upd H df (.own f)) f (.ins (cFloor K) df [])) := fun b o e => by
      rw [upd_ne (ne_of_none e nf), upd_ne (ne_of_none e ndf)]
      exact e
    refine ⟨f, df, pa, wl, ml, al, rs, ts, qs, prog, ks, ws, as, rfl, upd_same, Pr.same s2, W.same s2, w6, wok, s2.seq Ml, As.same s2, fun H3 B hB L3 nB nal k3 => ⟨rfl, ?_⟩⟩ -- Floor(..)
    subst hB
    have s3 : Same H H3 := fun b o e => k3 b o (s2 b o e) (by simpa using ne_of_none e nf)
    have nB0 : ∀ b ∈ B.foot, H b = none := fun b hb => by
      by_cases e : b = B.h
      · rw [e]; exact nf
      · exact Same.free s2 (nB b hb e)
    have nal0 : H B.al = none := Same.free s2 nal
    have gas0 : B.da.gas = [] := List.length_eq_zero_iff.mp (by rw [L3.dv.glen]; rfl)
    have hself3 := s3 _ _ hself
    /- the own things, one by one: nothing else changes -/
    have nwB : wt ∉ B.foot := fun z => by rw [nB0 wt z] at hself; cases hself
    have nwal : wt ≠ B.al := fun z => by rw [z, nal0] at hself; cases hself
    refine stf hself3 T.cl_Watch T.n_Watch_floor (by decide) rfl ?_ -- self.floor
    generalize e4 : upd H3 wt _ = H4
    have hw4 : H4 wt = some (.ins (cWatch K) dw (putF "floor" (V.ref B.h) [])) := by rw [← e4]; exact upd_same
    have k4 : Kept [wt] H3 H4 := by rw [← e4]; exact (Kept.refl _ _).put (by simp)
    have fr4 : ∀ x, H4 x = none → H3 x = none := fun x hx => by rw [← e4] at hx; exact upd_none hx
    clear e4
    intro dn ndn
    have s5 : Same H4 (upd H4 dn (.dK [])) := Same.new (Same.refl _) ndn
    have hdn5 : upd H4 dn (.dK []) dn = some (.dK []) := upd_same
    generalize upd H4 dn (.dK []) = H5 at s5 hdn5
    refine stf (s5 _ _ hw4) T.cl_Watch T.n_Watch_dones (lt1000 (by kernel_rfl)) rfl ?_ -- self.dones
    generalize e6 : upd H5 wt _ = H6
    have hw6 : H6 wt = some (.ins (cWatch K) dw (putF "dones" (V.ref dn) (putF "floor" (V.ref B.h) []))) := by rw [← e6]; exact upd_same
    have k6 : Kept [wt] H5 H6 := by rw [← e6]; exact (Kept.refl _ _).put (by simp)
    have fr6 : ∀ x, H6 x = none → H5 x = none := fun x hx => by rw [← e6] at hx; exact upd_none hx
    clear e6
    intro ob nob
    have s7 : Same H6 (upd H6 ob (.dK [])) := Same.new (Same.refl _) nob
    have hob7 : upd H6 ob (.dK []) ob = some (.dK []) := upd_same
    generalize upd H6 ob (.dK []) = H7 at s7 hob7
    refine stf (s7 _ _ hw6) T.cl_Watch T.n_Watch_on_behind (lt1000 (by kernel_rfl)) rfl ?_ -- self.on_behind
    generalize e8 : upd H7 wt _ = H8
    have hw8 : H8 wt = some (.ins (cWatch K) dw (putF "on_behind" (V.ref ob) (putF "dones" (V.ref dn) (putF "floor" (V.ref B.h) [])))) := by rw [← e8]; exact upd_same
    have k8 : Kept [wt] H7 H8 := by rw [← e8]; exact (Kept.refl _ _).put (by simp)
    have fr8 : ∀ x, H8 x = none → H7 x = none := fun x hx => by rw [← e8] at hx; exact upd_none hx
    clear e8
    refine ⟨by show 0 ≤ sizeLine; decide, fun pr npr => ?_⟩
    have s9 : Same H8 (upd H8 pr (.lst [])) := Same.new (Same.refl _) npr
    have hpr9 : upd H8 pr (.lst []) pr = some (.lst []) := upd_same
    generalize upd H8 pr (.lst []) = H9 at s9 hpr9
    refine stf (s9 _ _ hw8) T.cl_Watch T.n_Watch_pairs (lt1000 (by kernel_rfl)) rfl ?_ -- self.pairs
    refine stf upd_same T.cl_Watch T.n_Watch_first_get (lt1000 (by kernel_rfl)) rfl ?_ -- self.first_get
    rw [upd_upd]
    generalize e10 : upd H9 wt _ = H10
    have hw10 : H10 wt = some (.ins (cWatch K) dw (putF "first_get" V.non (putF "pairs" (V.ref pr) (putF "on_behind" (V.ref ob) (putF "dones" (V.ref dn) (putF "floor" (V.ref B.h) [])))))) := by rw [← e10]; exact upd_same
    have k10 : Kept [wt] H9 H10 := by rw [← e10]; exact (Kept.refl _ _).put (by simp)
    have fr10 : ∀ x, H10 x = none → H9 x = none := fun x hx => by rw [← e10] at hx; exact upd_none hx
    clear e10
    refine ⟨by show 0 ≤ sizeLine; decide, fun gl ngl => ?_⟩
    have s11 : Same H10 (upd H10 gl (.lst [])) := Same.new (Same.refl _) ngl
    have hgl11 : upd H10 gl (.lst []) gl = some (.lst []) := upd_same
    generalize upd H10 gl (.lst []) = H11 at s11 hgl11
    refine stf (s11 _ _ hw10) T.cl_Watch T.n_Watch_goings (lt1000 (by kernel_rfl)) (wa_made B.h dn ob pr none gl) ?_ -- self.goings
    generalize e12 : upd H11 wt _ = H12
    have hw12 : H12 wt = some (.ins (cWatch K) dw (waF ⟨B.h, dn, ob, pr, none, gl⟩)) := by rw [← e12]; exact upd_same
    have k12 : Kept [wt] H11 H12 := by rw [← e12]; exact (Kept.refl _ _).put (by simp)
    clear e12
    have k311 : Kept [wt] H3 H11 := ((((((k4.trans (Kept.same s5)).trans k6).trans (Kept.same s7)).trans k8).trans (Kept.same s9)).trans k10).trans (Kept.same s11)
    have k312 : Kept [wt] H3 H12 := k311.trans k12
    have ndn3 : H3 dn = none := fr4 _ ndn
    have nob3 : H3 ob = none := fr4 _ (Same.free s5 (fr6 _ nob))
    have npr3 : H3 pr = none := fr4 _ (Same.free s5 (fr6 _ (Same.free s7 (fr8 _ npr))))
    have ngl3 : H3 gl = none := fr4 _ (Same.free s5 (fr6 _ (Same.free s7 (fr8 _ (Same.free s9 (fr10 _ ngl))))))
    have dw' : dn ≠ wt := ne_of_none' hself3 ndn3
    have ow' : ob ≠ wt := ne_of_none' hself3 nob3
    have pw' : pr ≠ wt := ne_of_none' hself3 npr3
    have gw' : gl ≠ wt := ne_of_none' hself3 ngl3
    have hdn6 := k6 _ _ hdn5 (by simpa using dw')
    have hdn8 := k8 _ _ (s7 _ _ hdn6) (by simpa using dw')
    have hdn10 := k10 _ _ (s9 _ _ hdn8) (by simpa using dw')
    have hob8 := k8 _ _ hob7 (by simpa using ow')
    have hob10 := k10 _ _ (s9 _ _ hob8) (by simpa using ow')
    have hpr10 := k10 _ _ hpr9 (by simpa using pw')
    have do' : dn ≠ ob := ne_of_none hdn6 nob
    have dp' : dn ≠ pr := ne_of_none hdn8 npr
    have dg' : dn ≠ gl := ne_of_none hdn10 ngl
    have op' : ob ≠ pr := ne_of_none hob8 npr
    have og' : ob ≠ gl := ne_of_none hob10 ngl
    have pg' : pr ≠ gl := ne_of_none hpr10 ngl
    have inw : ∀ b ∈ [wt], ∃ u, H3 b = some u ∧ notTup u = true := fun b hb => by
      have e : b = wt := by simpa using hb
      rw [e]
      exact ⟨_, hself3, rfl⟩
    have L12 : FlAt K H12 B (HS.at0 prog as ks ws) (GH.none ks.length) := L3.own k312 (fun x hx => by
      have e : x = wt := by simpa using hx
      rw [e]
      exact nwB) (fun x hx => by
      have e : x = wt := by simpa using hx
      rw [e]
      exact nwal) inw
    have new3 : ∀ {x : Addr}, H3 x = none → x ∉ B.foot ∧ x ≠ B.al := fun {x} hx => by
      refine ⟨fun z => ?_, fun z => ?_⟩
      · obtain ⟨u, hu, _⟩ := L3.inF x z
        rw [hx] at hu
        cases hu
      · have := L3.als
        rw [← z, hx] at this
        cases this
    refine q H12 ⟨wt, dw, dn, ob, pr, gl, none, B⟩ rfl ⟨hw12, L12, ⟨[], k12 _ _ (s11 _ _ hdn10) (by simpa using dw'), Nat.le_refl _, fun r => rfl⟩, ⟨[], k12 _ _ (s11 _ _ hob10) (by simpa using ow'), Nat.le_refl _⟩, ⟨[], k12 _ _ (s11 _ _ hpr10) (by simpa using pw'), Nat.le_refl _⟩, ?_, Nat.le_refl _, fun x hx => ?_, fun x hx => ?_, ?_⟩ (fun x hx hne => ?_) ((Kept.same s3).trans k312)
    · show H12 gl = some (.lst (B.da.gas.map fun x => V.ref x.g))
      rw [gas0]
      exact k12 _ _ hgl11 (by simpa using gw')
    · have hx' : x ∈ [wt, dn, ob, pr, gl] := hx
      simp only [List.mem_cons] at hx'
      rcases hx' with rfl | rfl | rfl | rfl | rfl | z
      · exact nwB
      · exact (new3 ndn3).1
      · exact (new3 nob3).1
      · exact (new3 npr3).1
      · exact (new3 ngl3).1
      · cases z
    · have hx' : x ∈ [wt, dn, ob, pr, gl] := hx
      simp only [List.mem_cons] at hx'
      rcases hx' with rfl | rfl | rfl | rfl | rfl | z
      · exact nwal
      · exact (new3 ndn3).2
      · exact (new3 nob3).2
      · exact (new3 npr3).2
      · exact (new3 ngl3).2
      · cases z
    · show [wt, dn, ob, pr, gl].Nodup
      simp [Ne.symm dw', Ne.symm ow', Ne.symm pw', Ne.symm gw', do', dp', dg', op', og', pg']
    · rcases List.mem_append.mp hx with hx | hx
      · have hx' : x ∈ [wt, dn, ob, pr, gl] := hx
        simp only [List.mem_cons] at hx'
        rcases hx' with rfl | rfl | rfl | rfl | rfl | z
        · exact absurd rfl hne
        · exact Same.free s3 ndn3
        · exact Same.free s3 nob3
        · exact Same.free s3 npr3
        · exact Same.free s3 ngl3
        · cases z
      · exact nB0 x hx
end
end SB

set_option Elab.async false
set_option linter.all false
set_option maxRecDepth 100000
set_option maxHeartbeats 2000000
namespace SB
open PySem L2
def StrP (prog : List Row) : Prop := ∀ r ∈ prog, (∀ x, r ≠ .go x) ∧ ∀ x y, r ≠ .iff x y
theorem in_go {r : Row} (h1 : ∀ x, r ≠ .go x) (h2 : ∀ x y, r ≠ .iff x y) : inV (.str r.nm) [.str "go", .str "if"] = false := by
  cases r <;> first | exact absurd rfl (h1 _) | exact absurd rfl (h2 _ _) | kernel_rfl
section
variable {P : Program} {w : World} {K : PySem.W.Frag} {mg : Str → Option Value} {base : Heap} {H H' : Hp}
def sp_check_straight (K : PySem.W.Frag) : Sp := fun vs H Q _ => ∃ (pa : Addr) (rs : List Addr) (prog : List Row), vs = [.ref pa] ∧ ProgAt K H pa rs prog ∧ StrP prog ∧ ∀ H', Same H H' → Q .non H'
theorem ok_check_straight (T : T w K mg) : FnR P w K mg base CX0 1 (He.ga K "check_straight") (sp_check_straight K) := by
  obtain ⟨fd, F⟩ := T.f_check_straight
  refine F.r sc_check_straight (fun _ _ _ _ _ _ us hl => match us, hl with | [_], _ => rfl) (fun vs H Q E h => ?_) (fun cdv A outer s H vs Q E hr h => ?_)
  · obtain ⟨_, _, _, rfl, _⟩ := h
    rfl
  · obtain ⟨pa, rs, prog, rfl, Pr, st, q⟩ := h
    refine ⟨_, (pss_one (ps_for PassesOwn.never rfl (pi_tup (pv 0)) (pg_name (i := 1) sc_check_straight.nd rfl (Or.inl rfl))
  (pss_one (ps_if (pt_cmpR op_in_seq (pe_ix ix_tup (pv 1) pe_int (fun _ _ => rfl)) (pe_tup (pa_cons pe_str (pa_cons pe_str pa_nil))) rfl)
  (pss_one ps_never)
  pss_nil)))), ?_⟩
    refine ⟨_, rfl, pa, rfl, ⟨_, Pr.tup⟩, for_it (walk_tup (xs := rs.map V.ref)) (fun i σ H2 => ∃ v1, σ = [some (.ref pa), v1] ∧ Same H H2) ⟨none, rfl, Same.refl _⟩ (fun i σ H2 _ ⟨_, _, s⟩ => Same.tup s Pr.tup) ?_ (fun σ H2 ⟨_, _, s⟩ => q _ s)⟩
    rintro i x σ H2 H3 hi ⟨v1, rfl, s2⟩ ⟨rfl, hx⟩
    rw [List.getElem?_map] at hx
    cases ht : rs[i]? with
    | none => rw [ht] at hx; cases hx
    | some t =>
      rw [ht] at hx
      cases hx
      have hi2 : i < prog.length := by
        have := (List.getElem?_eq_some_iff.mp ht).1
        rw [Pr.len] at this
        exact this
      obtain ⟨r, hr'⟩ : ∃ r, prog[i]? = some r := ⟨_, List.getElem?_eq_getElem hi2⟩
      have h2 := Same.tup s2 (Pr.at_ i t r ht hr')
      obtain ⟨g1, g2⟩ := st r (List.mem_of_getElem? hr')
      refine ⟨.ref t, rfl, _, _, _, .str r.nm, rfl, rfl, h2, by rw [Row.vs_eq]; exact at_0', by show 2 ≤ sizeLine; decide, fun t2 n2 => ⟨t2, _, rfl, .inr (SqT.of upd_same), rfl, rfl, _, rfl, ?_⟩⟩
      show if (inV (.str r.nm) [.str "go", .str "if"]) = true then _ else _
      rw [in_go g1 g2]
      exact iteF ⟨_, rfl, s2.trans (Same.new (Same.refl _) n2)⟩
structure GoodA (K : PySem.W.Frag) (H : Hp) (pa wl al : Addr) (rs ts qs : List Addr) (prog : List Row) (ks : List Wk) (as : List (Int × Int)) : Prop where
  pr : ProgAt K H pa rs prog
  p0 : 0 < prog.length
  p40 : prog.length ≤ 40
  pok : ∀ r ∈ prog, r.ok prog.length
  W : WorksAt K H wl ts ks
  k6 : ks.length ≤ 6
  kok : ∀ k ∈ ks, WOk ks.length k
  A : AsksAt K H al qs as
  ao : AOk ks.length as
theorem GoodA.same {pa wl al : Addr} {rs ts qs : List Addr} {prog : List Row} {ks : List Wk} {as : List (Int × Int)} (h : GoodA K H pa wl al rs ts qs prog ks as) (s : Same H H') : GoodA K H' pa wl al rs ts qs prog ks as :=
  ⟨h.pr.same s, h.p0, h.p40, h.pok, h.W.same s, h.k6, h.kok, h.A.same s, h.ao⟩
def sp_check_ahead (K : PySem.W.Frag) : Sp := fun vs H Q _ => ∃ (pa wl al : Addr) (rs ts qs : List Addr) (prog : List Row) (ks : List Wk) (as : List (Int × Int)), vs = [.ref pa, .ref wl, .ref al] ∧ GoodA K H pa wl al rs ts qs prog ks as ∧ StrP prog ∧ ∀ H', Same H H' → Q .non H'
theorem ok_check_ahead (T : T w K mg) : FnR P w K mg base CX0 5 (He.ga K "check_ahead") (sp_check_ahead K) := by
  have F_check_program : FnR P w K mg base CX0 4 _ _ := ok_check_program T
  have F_check_works : FnR P w K mg base CX0 4 _ _ := ok_check_works T
  have F_check_asks : FnR P w K mg base CX0 4 _ _ := ok_check_asks T
  have F_check_straight : FnR P w K mg base CX0 1 _ _ := ok_check_straight T
  obtain ⟨fd, F⟩ := T.f_check_ahead
  refine F.r sc_check_ahead (fun _ _ _ _ _ _ us hl => match us, hl with | [_, _, _], _ => rfl) (fun vs H Q E h => ?_) (fun cdv A outer s0 H vs Q E hr h => ?_)
  · obtain ⟨_, _, _, _, _, _, _, _, _, rfl, _⟩ := h
    rfl
  · obtain ⟨pa, wl, al, rs, ts, qs, prog, ks, as, rfl, G, st, q⟩ := h
    refine ⟨_, (pss_cons (ps_expr (pe_callR F_check_program (hr.mono (by decide)) rfl T.g_check_program T.k_check_program (pa_cons (pv 0) pa_nil)))
  (pss_cons (ps_expr (pe_callR F_check_works (hr.mono (by decide)) rfl T.g_check_works T.k_check_works (pa_cons (pv 1) pa_nil)))
  (pss_cons (ps_expr (pe_callR F_check_asks (hr.mono (by decide)) rfl T.g_check_asks T.k_check_asks (pa_cons (pv 2) (pa_cons (pv 1) pa_nil))))
  (pss_one (ps_expr (pe_callR F_check_straight (hr.mono (by decide)) rfl T.g_check_straight T.k_check_straight (pa_cons (pv 0) pa_nil))))))), ?_⟩
    refine ⟨_, rfl, pa, rs, prog, rfl, G.pr, G.p0, G.p40, G.pok, fun H1 s1 => ?_⟩ -- check_program(program)
    refine ⟨_, rfl, wl, ts, ks, rfl, G.W.same s1, G.k6, G.kok, fun H2 s2' => ?_⟩ -- check_works(works)
    have s2 := s1.trans s2'
    refine ⟨_, rfl, _, rfl, al, wl, qs, ts, as, ks, rfl, G.A.same s2, G.W.same s2, G.ao, fun H3 s3' => ?_⟩ -- check_asks(asks, works)
    have s3 := s2.trans s3'
    exact ⟨_, rfl, pa, rs, prog, rfl, G.pr.same s3, st, fun H4 s4 => q _ (s3.trans s4)⟩
def w0s : List Int := [0, 0, 0, 0]
def sp_watched (K : PySem.W.Frag) : Sp := fun vs H Q _ => ∃ (pa wl al : Addr) (rs ts qs : List Addr) (prog : List Row) (ks : List Wk) (as : List (Int × Int)), vs = [.ref pa, .ref wl, .ref al] ∧ GoodA K H pa wl al rs ts qs prog ks as ∧
  ∀ H' b, WatchAt K H' b ((HS.at0 prog as ks w0s).after 300) ((HS.at0 prog as ks w0s).gafter (GH.none ks.length) 300) 300 (dnN (HS.at0 prog as ks w0s) 300) → Same H H' → Q (.ref b.wt) H'
theorem ok_watched (T : T w K mg) : FnR P w K mg base CX0 9 (He.ga K "watched") (sp_watched K) := by
  have F_Watch_init : FnR P w K mg base CX0 7 _ _ := ok_Watch_init T
  have F_Watch_run : FnR P w K mg base CX0 8 _ _ := ok_Watch_run T
  obtain ⟨t1, g_FEWEST_WORDS⟩ := T.i_FEWEST_WORDS
  obtain ⟨t2, g_MOST_BEATS⟩ := T.i_MOST_BEATS
  obtain ⟨fd, F⟩ := T.f_watched
  refine F.r sc_watched (fun _ _ _ _ _ _ us hl => match us, hl with | [_, _, _], _ => rfl) (fun vs H Q E h => ?_) (fun cdv A outer s0 H vs Q E hr h => ?_)
  · obtain ⟨_, _, _, _, _, _, _, _, _, rfl, _⟩ := h
    rfl
  · obtain ⟨pa, wl, al, rs, ts, qs, prog, ks, as, rfl, G, q⟩ := h
    refine ⟨_, (pss_cons (ps_set (i := 3) sc_watched.nd rfl (Or.inl rfl) (pe_mkR T.mk_Watch F_Watch_init (hr.mono (by decide)) rfl T.g_Watch (pa_cons (pv 0) (pa_cons (pv 1) (pa_cons (pe_op op_rep (pe_lst (pa_cons pe_int pa_nil)) (pe_glob (v := .int 4) rfl g_FEWEST_WORDS ⟨_, rfl⟩)) (pa_cons (pv 2) pa_nil))))))
  (pss_cons (ps_expr (pe_mthR (pv 3) T.cl_Watch T.m_Watch_run F_Watch_run (hr.mono (by decide)) (pa_cons (pe_glob (v := .int 300) rfl g_MOST_BEATS ⟨_, rfl⟩) pa_nil)))
  (pss_one (ps_ret (pv 3))))), ?_⟩
    refine ⟨_, rfl, _, rfl, by show 1 ≤ sizeLine; decide, fun z nz => ?_⟩
    have s1 : Same H (upd H z (.lst [.int 0])) := Same.new (Same.refl _) nz
    have hz : upd H z (.lst [.int 0]) z = some (.lst [.int 0]) := upd_same
    generalize upd H z (.lst [.int 0]) = H1 at s1 hz
    refine ⟨z, 4, [.int 0], rfl, rfl, hz, by decide, by decide, by show 1 * 4 ≤ sizeLine; decide, fun ml nml => ?_⟩
    have s2' : Same H1 (upd H1 ml (.lst (List.replicate (4 : Int).toNat [V.int 0]).flatten)) := Same.new (Same.refl _) nml
    have hml : upd H1 ml (.lst (List.replicate (4 : Int).toNat [V.int 0]).flatten) ml = some (.lst (w0s.map V.int)) := upd_same
    generalize upd H1 ml (.lst (List.replicate (4 : Int).toNat [V.int 0]).flatten) = H2 at s2' hml
    have s2 := s1.trans s2'
    refine ⟨_, rfl, ?_⟩
    intro wt dw nwt ndw new
    have s3' : Same H2 (upd (upd H2 dw (.own wt)) wt (.ins (cWatch K) dw [])) := fun b o e => by
      rw [upd_ne (ne_of_none e nwt), upd_ne (ne_of_none e ndw)]
      exact e
    have s3 := s2.trans s3'
    have G3 := G.same s3
    refine ⟨wt, dw, pa, wl, ml, al, rs, ts, qs, prog, ks, w0s, as, rfl, upd_same, G3.pr, G3.W, G.k6, fun k hk => ?_, SqL.of (s3' _ _ hml), G3.A, fun H4 b hb W4 nf k4 => ⟨rfl, ?_⟩⟩ -- Watch(..)
    · have := (G.kok k hk).m
      obtain ⟨m1, m2⟩ := this
      omega
    subst hb
    have s4' : Same H2 H4 := fun x o e => k4 x o (s3' x o e) (by simpa using ne_of_none e nwt)
    have s4 := s2.trans s4'
    have nf0 : ∀ x ∈ b.foot, H x = none := fun x hx => by
      by_cases e : x = b.wt
      · rw [e]; exact Same.free s2 nwt
      · exact Same.free s3 (nf x hx e)
    refine ⟨_, rfl, _, _, _, rfl, W4.wo, wa_no_run _, ?_⟩
    refine ⟨b, _, _, 300, rfl, W4, at0_ok G.pok G.k6 G.kok (by decide) G.ao, by decide, by decide, fun H5 b' e1 e2 W5 st5 => ?_⟩ -- watch.run(300)
    refine ⟨_, rfl, ?_⟩
    rw [← e1]
    refine q _ b' W5 (fun x o e => ?_)
    exact st5.kp x o (s4 x o e) (fun zz => by rw [nf0 x zz] at e; cases e)
def tmsV (s : HS) (n : Nat) : List V := (List.range n).map fun (i : Nat) => oV (dnN s 300 (i : Int))
def sp_row_times (K : PySem.W.Frag) : Sp := fun vs H Q _ => ∃ (pa wl al : Addr) (rs ts qs : List Addr) (prog : List Row) (ks : List Wk) (as : List (Int × Int)), vs = [.ref pa, .ref wl, .ref al] ∧ GoodA K H pa wl al rs ts qs prog ks as ∧
  ∀ H' R, H R = none → H' R = some (.lst (tmsV (HS.at0 prog as ks w0s) prog.length)) → Same H H' → Q (.ref R) H'
theorem ok_row_times (T : T w K mg) : FnR P w K mg base CX0 10 (He.ga K "row_times") (sp_row_times K) := by
  have F_watched : FnR P w K mg base CX0 9 _ _ := ok_watched T
  obtain ⟨fd, F⟩ := T.f_row_times
  refine F.r sc_row_times (fun _ _ _ _ _ _ us hl => match us, hl with | [_, _, _], _ => rfl) (fun vs H Q E h => ?_) (fun cdv A outer s0 H vs Q E hr h => ?_)
  · obtain ⟨_, _, _, _, _, _, _, _, _, rfl, _⟩ := h
    rfl
  · obtain ⟨pa, wl, al, rs, ts, qs, prog, ks, as, rfl, G, q⟩ := h
    have hu := hr.units
    have hu1 : (A.deeper (PyProof.Rows.envOfC "row_times" (defScope s_row_times) s0.heap.objs.size (He.ga K "row_times") cdv)).units + 1 < cLine := by omega
    refine ⟨_, (pss_cons (ps_set (i := 3) sc_row_times.nd rfl (Or.inr rfl) (pe_callR F_watched (hr.mono (by decide)) rfl T.g_watched T.k_watched (pa_cons (pv 0) (pa_cons (pv 1) (pa_cons (pv 2) pa_nil)))))
  (pss_one (ps_ret (pe_lc (own := [("row", 4)]) (g := gName 4) (tt := tYes) (te := tDGet1 (tFld K (tVar 3) "dones") (tVar 4)) rfl sc_row_times.nd (pi_range1 rfl T.u_range (pa_cons (pe_callB call_len_seq rfl T.u_len PySem.boot_len (pa_cons (pv 0) pa_nil)) pa_nil))
      (blkOk_by (N := ["program", "works", "asks", "watch", "row"]) (sc := defScope s_row_times) (by decide +kernel)) (fun _ _ _ _ _ => pg_name (i := 4) sc_row_times.nd rfl (Or.inl rfl)) (fun _ _ _ _ _ => pts_nil) (fun _ _ _ _ _ => pe_dget1 hu1 (pe_fld (pv 3) rfl) (pv 4) ⟨rfl, rfl, rfl, rfl⟩))))), ?_⟩
    refine ⟨_, rfl, _, rfl, _, rfl, ?_⟩
    refine ⟨pa, wl, al, rs, ts, qs, prog, ks, as, rfl, G, fun H1 b W1 s1 => ?_⟩
    obtain ⟨kvs, hdn, ldn, vdn⟩ := W1.dn
    generalize HS.at0 prog as ks w0s = s at W1 vdn q
    have G1 := G.same s1
    refine ⟨_, rfl, _, _, rfl, .inr G1.pr.tup, ?_⟩
    rw [List.length_map, G.pr.len]
    refine ⟨(prog.length : Int), rfl, by omega, by have := G.p40; omega, fun R nR => ?_⟩
    refine lc_it walk_range (fun i H2 => H2 R = some (.lst (tmsV s i)) ∧ Same H1 H2) ⟨upd_same, Same.new (Same.refl _) nR⟩ (fun _ _ _ _ => trivial) ?_ ?_
    · rintro i x H2 H2' hi ⟨hR, s2⟩ ⟨rfl, rfl⟩
      refine ⟨rfl, yes ?_⟩
      refine ⟨_, rfl, _, _, _, _, _, rfl, s2 _ _ W1.wo, T.cl_Watch, T.n_Watch_dones, wa_dones _, b.dn, rfl, .inl ⟨_, .inl (s2 _ _ hdn)⟩, _, rfl, _, DGet.k (k := .inl (0 + (i : Nat))) (s2 _ _ hdn), ?_⟩
      rw [vdn]
      have e0 : (0 : Int) + (i : Nat) = (i : Int) := by omega
      rw [e0]
      refine ⟨_, hR, ?_, ?_, Same.new s2 nR⟩
      · unfold tmsV
        rw [List.length_map, List.length_range]
        have h1 : i < prog.length := by simpa using hi
        exact Nat.lt_of_lt_of_le h1 (Nat.le_trans G.p40 (by decide))
      · rw [upd_same]
        unfold tmsV
        have e : ((dnN s 300 (i : Int)).map V.int).getD .non = oV (dnN s 300 (i : Int)) := by cases dnN s 300 (i : Int) <;> rfl
        rw [List.range_succ, List.map_append, e]
        rfl
    · rintro H2 ⟨hR, s2⟩
      exact q _ _ (Same.free s1 nR) hR (s1.trans s2)
def sp_times (K : PySem.W.Frag) : Sp := fun vs H Q _ => ∃ (pa wl al : Addr) (rs ts qs : List Addr) (prog : List Row) (ks : List Wk) (as : List (Int × Int)), vs = [.ref pa, .ref wl, .ref al] ∧ GoodA K H pa wl al rs ts qs prog ks as ∧ StrP prog ∧
  ∀ H' R, H R = none → H' R = some (.lst (tmsV (HS.at0 prog as ks w0s) prog.length)) → Same H H' → Q (.ref R) H'
theorem ok_times (T : T w K mg) : FnR P w K mg base CX0 11 (He.ga K "times") (sp_times K) := by
  have F_check_ahead : FnR P w K mg base CX0 5 _ _ := ok_check_ahead T
  have F_row_times : FnR P w K mg base CX0 10 _ _ := ok_row_times T
  obtain ⟨fd, F⟩ := T.f_times
  refine F.r sc_times (fun _ _ _ _ _ _ us hl => match us, hl with | [_, _, _], _ => rfl) (fun vs H Q E h => ?_) (fun cdv A outer s0 H vs Q E hr h => ?_)
  · obtain ⟨_, _, _, _, _, _, _, _, _, rfl, _⟩ := h
    rfl
  · obtain ⟨pa, wl, al, rs, ts, qs, prog, ks, as, rfl, G, st, q⟩ := h
    refine ⟨_, (pss_cons (ps_expr (pe_callR F_check_ahead (hr.mono (by decide)) rfl T.g_check_ahead T.k_check_ahead (pa_cons (pv 0) (pa_cons (pv 1) (pa_cons (pv 2) pa_nil)))))
  (pss_one (ps_ret (pe_callR F_row_times (hr.mono (by decide)) rfl T.g_row_times T.k_row_times (pa_cons (pv 0) (pa_cons (pv 1) (pa_cons (pv 2) pa_nil))))))), ?_⟩
    refine ⟨_, rfl, _, rfl, _, rfl, pa, wl, al, rs, ts, qs, prog, ks, as, rfl, G, st, fun H1 s1 => ?_⟩
    exact ⟨_, rfl, _, rfl, _, rfl, pa, wl, al, rs, ts, qs, prog, ks, as, rfl, G.same s1, fun H2 R nR hR s2 => q _ _ (Same.free s1 nR) hR (s1.trans s2)⟩
end
end SB

set_option Elab.async false
set_option linter.all false
set_option maxRecDepth 100000
set_option maxHeartbeats 2000000
namespace SB
open PySem L2
def sk (k : Wk) : Wk := { k with hand := k.hand.map fun _ => 0 }
theorem sk_start (k : Wk) : sk k.start = (sk k).start := by
  unfold Wk.start sk
  by_cases h : k.on = true
  · rw [if_pos h, if_pos h]
  · rw [if_neg h, if_neg h]
theorem sk_takes {ms : List Bool} {wanted took : Bool} (k : Wk) : takes ms wanted took (sk k) = takes ms wanted took k := by
  obtain ⟨b, g, m, c, gr, ma, fo, on, la, ha⟩ := k
  unfold takes Wk.held Wk.may sk
  cases ha <;> rfl
theorem sk_move {k1 k2 : Wk} {ws1 ws2 : List Int} (h : sk k1 = sk k2) : sk (k1.move ws1).1 = sk (k2.move ws2).1 ∧ (k1.move ws1).1.on = (k2.move ws2).1.on ∧ (k1.move ws1).1.follow = (k2.move ws2).1.follow := by
  obtain ⟨b, g, m, c, gr, ma, fo, on, la, ha⟩ := k1
  obtain ⟨b', g', m', c', gr', ma', fo', on', la', ha'⟩ := k2
  simp only [sk, Wk.mk.injEq] at h
  obtain ⟨rfl, rfl, rfl, rfl, rfl, rfl, rfl, rfl, rfl, h⟩ := h
  cases ha with
  | none =>
    cases ha' with
    | none => exact ⟨rfl, rfl, rfl⟩
    | some y => cases h
  | some x =>
    cases ha' with
    | none => cases h
    | some y => exact ⟨rfl, rfl, rfl⟩
def KS (a b : List Wk) : Prop := a.map sk = b.map sk
theorem KS.modify {a b : List Wk} (h : KS a b) (n : Nat) : KS (a.modify n Wk.start) (b.modify n Wk.start) := by
  have key : ∀ l : List Wk, (l.modify n Wk.start).map sk = (l.map sk).modify n Wk.start := fun l => by
    apply List.ext_getElem?
    intro i
    rw [List.getElem?_map, List.getElem?_modify, List.getElem?_modify, List.getElem?_map]
    cases l[i]? with
    | none => rfl
    | some k =>
      by_cases hi : n = i
      · simp [hi, sk_start]
      · simp [hi]
  unfold KS
  rw [key, key, h]
theorem KS.set {a b : List Wk} (h : KS a b) (n : Nat) {x y : Wk} (hx : sk x = sk y) : KS (a.set n x) (b.set n y) := by
  unfold KS
  rw [List.map_set, List.map_set, h, hx]
theorem KS.find {a b : List Wk} (h : KS a b) {ms : List Bool} {wanted took : Bool} : a.findIdx? (takes ms wanted took) = b.findIdx? (takes ms wanted took) := by
  have key : ∀ l : List Wk, l.findIdx? (takes ms wanted took) = (l.map sk).findIdx? (takes ms wanted took) := fun l => by
    rw [List.findIdx?_map]
    congr 1
    funext k
    exact (sk_takes k).symm
  rw [key, key b, h]
theorem KS.at_ {a b : List Wk} (h : KS a b) (j : Nat) : (a[j]? = none ∧ b[j]? = none) ∨ ∃ x y, a[j]? = some x ∧ b[j]? = some y ∧ sk x = sk y := by
  have e : (a.map sk)[j]? = (b.map sk)[j]? := by rw [h]
  rw [List.getElem?_map, List.getElem?_map] at e
  cases ha : a[j]? with
  | none =>
    cases hb : b[j]? with
    | none => exact .inl ⟨rfl, rfl⟩
    | some y => rw [ha, hb] at e; cases e
  | some x =>
    cases hb : b[j]? with
    | none => rw [ha, hb] at e; cases e
    | some y =>
      rw [ha, hb] at e
      exact .inr ⟨x, y, rfl, rfl, by simpa using e⟩
theorem KS.asks {n : Int} : ∀ {as : List (Int × Int)} {a b : List Wk}, KS a b → KS (askAll n a as) (askAll n b as)
  | [], a, b, h => h
  | x :: r, a, b, h => by
    show KS (askAll n (askOne n a x) r) (askAll n (askOne n b x) r)
    refine KS.asks ?_
    unfold askOne
    split
    · exact h.modify _
    · exact h
theorem KS.move {a b : List Wk} (h : KS a b) {took wanted : Bool} {ms : List Bool} {ws1 ws2 : List Int} : KS (devMove a took wanted ms ws1).1 (devMove b took wanted ms ws2).1 ∧ (devMove a took wanted ms ws1).2.1 = (devMove b took wanted ms ws2).2.1 := by
  unfold devMove
  rw [h.find]
  cases b.findIdx? (takes ms wanted took) with
  | none => exact ⟨h, rfl⟩
  | some j =>
    rcases h.at_ j with ⟨e1, e2⟩ | ⟨x, y, e1, e2, e3⟩
    · simp only [e1, e2]
      exact ⟨h, trivial⟩
    · simp only [e1, e2]
      obtain ⟨m1, m2, m3⟩ := sk_move (ws1 := ws1) (ws2 := ws2) e3
      refine ⟨?_, trivial⟩
      rw [m2, m3]
      split
      · exact h.set j m1
      · split
        · exact h.set j m1
        · exact (h.set j m1).modify _
def MT.c : MT → Nat
  | .waits => 0
  | .ends => 1
  | _ => 2
structure Sim (s t : HS) : Prop where
  prog : t.prog = s.prog
  asks : t.asks = s.asks
  row : t.S.row = s.S.row
  spent : t.S.spent = s.S.spent
  marks : t.S.marks = s.S.marks
  ks : KS s.ks t.ks
  took : t.took = s.took
  beats : t.beats = s.beats
theorem word_is (r : Row) (sp : Int) (c1 c2 : List Int) : (r.word sp c1).isSome = (r.word sp c2).isSome := by cases r <;> rfl
theorem eff_sim {n : Nat} {S1 S2 : MS} {a b : List Wk} {r : Row} (g1 : ∀ x, r ≠ .go x) (g2 : ∀ x y, r ≠ .iff x y) (h1 : S2.row = S1.row) (h3 : S2.marks = S1.marks) (hk : KS a b) :
    (eff n S2 b r).1.row = (eff n S1 a r).1.row ∧ (eff n S2 b r).1.spent = (eff n S1 a r).1.spent ∧ (eff n S2 b r).1.marks = (eff n S1 a r).1.marks ∧ KS (eff n S1 a r).2 (eff n S2 b r).2 := by
  cases r <;> first | exact absurd rfl (g1 _) | exact absurd rfl (g2 _ _) | (simp only [eff, h1, h3]; exact ⟨trivial, trivial, trivial, hk⟩) | (simp only [eff, h1, h3]; exact ⟨trivial, trivial, trivial, hk.modify _⟩)
theorem tick_sim {n : Nat} {S1 S2 : MS} {a b : List Wk} {r : Row} (g1 : ∀ x, r ≠ .go x) (g2 : ∀ x y, r ≠ .iff x y) (h1 : S2.row = S1.row) (h2 : S2.spent = S1.spent) (h3 : S2.marks = S1.marks) (hk : KS a b) :
    (tick n S2 b r).1.row = (tick n S1 a r).1.row ∧ (tick n S2 b r).1.spent = (tick n S1 a r).1.spent ∧ (tick n S2 b r).1.marks = (tick n S1 a r).1.marks ∧ KS (tick n S1 a r).2 (tick n S2 b r).2 := by
  unfold tick
  rw [h2]
  split
  · exact eff_sim g1 g2 h1 h3 hk
  · exact ⟨h1, h2, h3, hk⟩
theorem mstep_sim {prog : List Row} {S1 S2 : MS} {a b : List Wk} {took : Bool} {ws1 ws2 : List Int} (st : StrP prog) (h1 : S2.row = S1.row) (h2 : S2.spent = S1.spent) (h3 : S2.marks = S1.marks) (hk : KS a b) :
    (mstep prog S2 b took ws2).1.row = (mstep prog S1 a took ws1).1.row ∧ (mstep prog S2 b took ws2).1.spent = (mstep prog S1 a took ws1).1.spent ∧ (mstep prog S2 b took ws2).1.marks = (mstep prog S1 a took ws1).1.marks ∧ KS (mstep prog S1 a took ws1).2.1 (mstep prog S2 b took ws2).2.1 ∧ (mstep prog S2 b took ws2).2.2.2.c = (mstep prog S1 a took ws1).2.2.2.c := by
  obtain ⟨c1, mk1, r1, sp1⟩ := S1
  obtain ⟨c2, mk2, r2, sp2⟩ := S2
  have h1' : r2 = r1 := h1
  have h2' : sp2 = sp1 := h2
  have h3' : mk2 = mk1 := h3
  subst h1' h2' h3'
  unfold mstep
  cases hr : prog[r2.toNat]? with
  | none => simp only [hr]; exact ⟨trivial, trivial, trivial, hk, trivial⟩
  | some r =>
    obtain ⟨g1, g2⟩ := st r (List.mem_of_getElem? hr)
    have hw := word_is r sp2 c2 c1
    simp only [hr]
    cases e1 : r.word sp2 c1 with
    | none =>
      cases e2 : r.word sp2 c2 with
      | some z => rw [e1, e2] at hw; cases hw
      | none =>
        simp only [e1, e2]
        obtain ⟨t1, t2, t3, t4⟩ := tick_sim (n := prog.length) (S1 := ⟨c1, mk2, r2, sp2 + 1⟩) (S2 := ⟨c2, mk2, r2, sp2 + 1⟩) g1 g2 rfl rfl rfl hk
        exact ⟨t1, t2, t3, t4, trivial⟩
    | some z1 =>
      cases e2 : r.word sp2 c2 with
      | none => rw [e1, e2] at hw; cases hw
      | some z2 =>
        obtain ⟨z1, p1, d1⟩ := z1
        obtain ⟨z2, p2, d2⟩ := z2
        simp only [e1, e2]
        cases took with
        | true => exact ⟨rfl, rfl, rfl, hk, rfl⟩
        | false =>
          obtain ⟨t1, t2, t3, t4⟩ := tick_sim (n := prog.length) (S1 := ⟨(useW z1 p1 d1 c1 ws1).1, mk2, r2, sp2 + 1⟩) (S2 := ⟨(useW z2 p2 d2 c2 ws2).1, mk2, r2, sp2 + 1⟩) g1 g2 rfl rfl rfl hk
          simp only [Bool.false_eq_true, if_false]
          exact ⟨t1, t2, t3, t4, rfl⟩
theorem Sim.next {s t : HS} (h : Sim s t) (st : StrP s.prog) : Sim s.next t.next ∧ t.ent.2.c = s.ent.2.c := by
  have hw : (wantedOf t.prog t.S).isSome = (wantedOf s.prog s.S).isSome := by
    unfold wantedOf
    rw [h.prog, h.row, h.spent]
    cases s.prog[s.S.row.toNat]? with
    | none => rfl
    | some r => exact word_is _ _ _ _
  have hd := (h.ks.asks (n := s.beats) (as := s.asks)).move (took := s.took) (wanted := (wantedOf s.prog s.S).isSome) (ms := s.S.marks) (ws1 := s.ws) (ws2 := t.ws)
  have e1 : t.dm = devMove (askAll s.beats t.ks s.asks) s.took (wantedOf s.prog s.S).isSome s.S.marks t.ws := by
    unfold HS.dm
    rw [hw, h.beats, h.asks, h.took, h.marks]
  have e2 : s.dm = devMove (askAll s.beats s.ks s.asks) s.took (wantedOf s.prog s.S).isSome s.S.marks s.ws := rfl
  rw [← e1, ← e2] at hd
  obtain ⟨d1, d2⟩ := hd
  have hm := mstep_sim (took := s.dm.2.1) (ws1 := s.dm.2.2.1) (ws2 := t.dm.2.2.1) st h.row h.spent h.marks d1
  have e3 : t.ms = mstep s.prog t.S t.dm.1 s.dm.2.1 t.dm.2.2.1 := by
    unfold HS.ms
    rw [h.prog, ← d2]
  have e4 : s.ms = mstep s.prog s.S s.dm.1 s.dm.2.1 s.dm.2.2.1 := rfl
  rw [← e3, ← e4] at hm
  obtain ⟨m1, m2, m3, m4, m5⟩ := hm
  exact ⟨⟨h.prog, h.asks, m1, m2, m3, m4, d2.symm, by show t.beats + 1 = s.beats + 1; rw [h.beats]⟩, m5⟩
theorem after_progS (s : HS) : ∀ n, (s.after n).prog = s.prog
  | 0 => rfl
  | n + 1 => after_progS s n
theorem Sim.after {s t : HS} (h : Sim s t) (st : StrP s.prog) : ∀ n, Sim (s.after n) (t.after n)
  | 0 => h
  | n + 1 => ((Sim.after h st n).next (by rw [after_progS]; exact st)).1
theorem doneB_c {s : HS} : s.doneB = (decide (s.ent.2.c = 2) && decide (s.next.S.spent = 0)) := by
  unfold HS.doneB
  cases s.ent.2 <;> simp [MT.c]
theorem Sim.dones {s t : HS} (h : Sim s t) (st : StrP s.prog) : ∀ n, dnN t n = dnN s n
  | 0 => rfl
  | n + 1 => by
    have ih := h.dones st n
    have h1 := h.after st n
    obtain ⟨h2, h3⟩ := h1.next (by rw [after_progS]; exact st)
    show dnext (t.after n) (dnN t n) = dnext (s.after n) (dnN s n)
    rw [ih]
    funext r
    unfold dnext
    rw [doneB_c, doneB_c, h3, h2.spent, h1.row, h1.beats]
theorem sim0 {prog : List Row} {as : List (Int × Int)} {ks : List Wk} {ws1 ws2 : List Int} : Sim (HS.at0 prog as ks ws1) (HS.at0 prog as ks ws2) := ⟨rfl, rfl, rfl, rfl, rfl, rfl, rfl, rfl⟩
theorem row_step {s : HS} (O : HOk s) (st : StrP s.prog) : s.S.row ≤ s.next.S.row ∧ (s.S.row < s.prog.length → (s.doneB = true ↔ s.next.S.row ≠ s.S.row)) ∧ (s.S.row = s.prog.length → s.next.S.row = s.S.row ∧ s.doneB = false) := by
  have en : s.next.S = (mstep s.prog s.S s.dm.1 s.dm.2.1 s.dm.2.2.1).1 := rfl
  have ee : s.ent.2 = (mstep s.prog s.S s.dm.1 s.dm.2.1 s.dm.2.2.1).2.2.2 := rfl
  have hd : s.doneB = (decide ((mstep s.prog s.S s.dm.1 s.dm.2.1 s.dm.2.2.1).2.2.2.c = 2) && decide ((mstep s.prog s.S s.dm.1 s.dm.2.1 s.dm.2.2.1).1.spent = 0)) := by rw [doneB_c, en, ee]
  rw [en, hd]
  have r0 := O.m.row0
  have rn := O.m.rown
  have s0 := O.m.sp0
  have tk : ∀ (c : List Int) (ks : List Wk) (r : Row), s.prog[s.S.row.toNat]? = some r → s.S.row < s.prog.length → (∀ x, r ≠ .go x) → (∀ x y, r ≠ .iff x y) →
      s.S.row ≤ (tick s.prog.length { s.S with cells := c, spent := s.S.spent + 1 } ks r).1.row ∧ ((tick s.prog.length { s.S with cells := c, spent := s.S.spent + 1 } ks r).1.spent = 0 ↔ (tick s.prog.length { s.S with cells := c, spent := s.S.spent + 1 } ks r).1.row ≠ s.S.row) := by
    intro c ks r hr hlt g1 g2
    unfold tick
    split
    · cases r <;> first | exact absurd rfl (g1 _) | exact absurd rfl (g2 _ _) | exact ⟨by show s.S.row ≤ s.S.row + 1; omega, fun _ => (by show s.S.row + 1 ≠ s.S.row; omega), fun _ => rfl⟩ | exact ⟨by show s.S.row ≤ (s.prog.length : Int); omega, fun _ => (by show (s.prog.length : Int) ≠ s.S.row; omega), fun _ => rfl⟩
    · refine ⟨Int.le_refl _, ⟨fun h => ?_, fun h => absurd rfl h⟩⟩
      have h' : s.S.spent + 1 = 0 := h
      omega
  unfold mstep
  cases hr : s.prog[s.S.row.toNat]? with
  | none =>
    have hge : s.prog.length ≤ s.S.row.toNat := by simpa using hr
    refine ⟨Int.le_refl _, fun h => by omega, fun _ => ⟨rfl, rfl⟩⟩
  | some r =>
    have hlt : s.S.row < s.prog.length := by
      have := (List.getElem?_eq_some_iff.mp hr).1
      omega
    obtain ⟨g1, g2⟩ := st r (List.mem_of_getElem? hr)
    cases e1 : r.word s.S.spent s.S.cells with
    | none =>
      simp only [e1]
      obtain ⟨t1, t2⟩ := tk s.S.cells s.dm.1 r hr hlt g1 g2
      refine ⟨t1, fun _ => ?_, fun h => by omega⟩
      rw [Bool.and_eq_true, decide_eq_true_iff, decide_eq_true_iff]
      exact ⟨fun h => t2.mp h.2, fun h => ⟨rfl, t2.mpr h⟩⟩
    | some z1 =>
      obtain ⟨z1, p1, c1⟩ := z1
      simp only [e1]
      cases s.dm.2.1 with
      | true => exact ⟨Int.le_refl _, fun _ => ⟨(fun h => by cases h), fun h => absurd rfl h⟩, fun h => by omega⟩
      | false =>
        obtain ⟨t1, t2⟩ := tk (useW z1 p1 c1 s.S.cells s.dm.2.2.1).1 s.dm.1 r hr hlt g1 g2
        refine ⟨t1, fun _ => ?_, fun h => by omega⟩
        simp only [Bool.false_eq_true, if_false]
        rw [Bool.and_eq_true, decide_eq_true_iff, decide_eq_true_iff]
        exact ⟨fun h => t2.mp h.2, fun h => ⟨rfl, t2.mpr h⟩⟩
theorem dn_ahead {s : HS} (O : HOk s) (st : StrP s.prog) : ∀ (n : Nat) (i : Int), dnN s n i ≠ none → i < (s.after n).S.row
  | 0, i, h => absurd rfl h
  | n + 1, i, h => by
    have hs := row_step (O.after n) (by rw [after_progS]; exact st)
    show i < (s.after n).next.S.row
    have h' : dnext (s.after n) (dnN s n) i ≠ none := h
    unfold dnext at h'
    by_cases hc : (s.after n).doneB = true ∧ (s.after n).S.row = i
    · obtain ⟨c1, c2⟩ := hc
      have ip := hs.2.1
      rw [after_progS] at ip
      by_cases hl : (s.after n).S.row < s.prog.length
      · have := (ip hl).mp c1
        have := hs.1
        omega
      · have h3 := hs.2.2 (by have := (O.after n).m.rown; rw [after_progS] at this ⊢; omega)
        rw [c1] at h3
        cases h3.2
    · rw [if_neg hc] at h'
      have := dn_ahead O st n i h'
      have := hs.1
      omega
theorem dn_end {s : HS} (O : HOk s) (st : StrP s.prog) {n : Nat} (h : (s.after n).S.row = s.prog.length) : ∀ k, (s.after (n + k)).S.row = s.prog.length ∧ dnN s (n + k) = dnN s n
  | 0 => ⟨h, rfl⟩
  | k + 1 => by
    obtain ⟨h1, h2⟩ := dn_end O st h k
    have hs := (row_step (O.after (n + k)) (by rw [after_progS]; exact st)).2.2 (by rw [after_progS]; exact h1)
    refine ⟨?_, ?_⟩
    · show (s.after (n + k)).next.S.row = _
      rw [hs.1, h1]
    · show dnext (s.after (n + k)) (dnN s (n + k)) = _
      rw [h2]
      funext r
      unfold dnext
      rw [hs.2, if_neg (fun z => by cases z.1)]
end SB

set_option Elab.async false
set_option linter.all false
set_option maxRecDepth 100000
set_option maxHeartbeats 2000000
namespace SB
open PySem L2
structure Eq1 (s t : HS) : Prop where
  S : t.S = s.S
  ks : t.ks = s.ks
  took : t.took = s.took
  ws : t.ws = s.ws
  beats : t.beats = s.beats
theorem step_eq {s t : HS} (hS : t.S = s.S) (ht : t.took = s.took) (hw : t.ws = s.ws) (hb : t.beats = s.beats) (ha : askAll t.beats t.ks t.asks = askAll s.beats s.ks s.asks) (hp : t.prog[s.S.row.toNat]? = s.prog[s.S.row.toNat]?) (hl : t.prog.length = s.prog.length) :
    Eq1 s.next t.next ∧ t.ent = s.ent := by
  have e0 : wantedOf t.prog t.S = wantedOf s.prog s.S := by unfold wantedOf; rw [hS, hp]
  have e1 : t.dm = s.dm := by unfold HS.dm; rw [ha, ht, e0, hS, hw]
  have e2 : t.ms = s.ms := by
    unfold HS.ms mstep
    rw [e1, hS, hp, hl]
  refine ⟨⟨?_, ?_, ?_, ?_, ?_⟩, ?_⟩
  · show t.ms.1 = s.ms.1; rw [e2]
  · show t.ms.2.1 = s.ms.2.1; rw [e2]
  · show t.dm.2.1 = s.dm.2.1; rw [e1]
  · show t.ms.2.2.1 = s.ms.2.2.1; rw [e2]
  · show t.beats + 1 = s.beats + 1; rw [hb]
  · unfold HS.ent; rw [e1, e2]
theorem ask_filter {b : Int} {ks : List Wk} {as bs : List (Int × Int)} (h : as.filter (fun a => decide (a.1 = b)) = bs.filter (fun a => decide (a.1 = b))) : askAll b ks as = askAll b ks bs := by
  rw [← startAll_asks, ← startAll_asks, h]
theorem dn_val {s : HS} (b0 : s.beats = 0) : ∀ (n : Nat) (r x : Int), dnN s n r = some x → ∃ j : Nat, j < n ∧ x = (j : Int) ∧ (s.after j).doneB = true ∧ (s.after j).S.row = r ∧ ∀ i : Nat, i < j → ¬ ((s.after i).doneB = true ∧ (s.after i).S.row = r)
  | 0, r, x, h => by cases h
  | n + 1, r, x, h => by
    have h' : dnext (s.after n) (dnN s n) r = some x := h
    unfold dnext at h'
    by_cases hc : (s.after n).doneB = true ∧ (s.after n).S.row = r
    · rw [if_pos hc] at h'
      cases hd : dnN s n r with
      | some y =>
        rw [hd] at h'
        have e : y = x := Option.some.inj h'
        subst e
        obtain ⟨j, h1, h2⟩ := dn_val b0 n r y hd
        exact ⟨j, by omega, h2⟩
      | none =>
        rw [hd] at h'
        have e : (s.after n).beats = x := Option.some.inj h'
        refine ⟨n, by omega, ?_, hc.1, hc.2, fun i hi hx => ?_⟩
        · rw [← e]
          have : ∀ m, (s.after m).beats = s.beats + m := fun m => by
            induction m with
            | zero => show s.beats = s.beats + 0; omega
            | succ m ih => show (s.after m).beats + 1 = _; rw [ih]; omega
          rw [this, b0]
          omega
        · have key : ∀ m, i < m → dnN s m r ≠ none := fun m => by
            induction m with
            | zero => omega
            | succ m ih =>
              intro hm
              show dnext (s.after m) (dnN s m) r ≠ none
              unfold dnext
              by_cases him : i = m
              · subst him
                rw [if_pos hx]
                cases dnN s i r <;> exact fun z => by cases z
              · have := ih (by omega)
                by_cases hc' : (s.after m).doneB = true ∧ (s.after m).S.row = r
                · rw [if_pos hc']
                  cases hq : dnN s m r with
                  | none => exact absurd hq this
                  | some q => exact fun z => by cases z
                · rw [if_neg hc']
                  exact this
          exact key n hi hd
    · rw [if_neg hc] at h'
      obtain ⟨j, h1, h2⟩ := dn_val b0 n r x h'
      exact ⟨j, by omega, h2⟩
def asksB (as : List (Int × Int)) (b num : Int) : List (Int × Int) := as.filter (fun a => decide (a.1 ≤ b)) ++ [(b + 1, num)] ++ as.filter (fun a => decide (a.1 > b))
theorem asksB_filter {as : List (Int × Int)} {b num n : Int} (h : n ≠ b + 1) : (asksB as b num).filter (fun a => decide (a.1 = n)) = as.filter (fun a => decide (a.1 = n)) := by
  unfold asksB
  rw [List.filter_append, List.filter_append, List.filter_filter, List.filter_filter]
  have e2 : ([(b + 1, num)] : List (Int × Int)).filter (fun a => decide (a.1 = n)) = [] := by
    rw [List.filter_cons_of_neg (by simpa using Ne.symm h)]
    rfl
  rw [e2, List.append_nil]
  by_cases hn : n ≤ b
  · have e1 : as.filter (fun a => decide (a.1 = n) && decide (a.1 ≤ b)) = as.filter (fun a => decide (a.1 = n)) := List.filter_congr fun a _ => by
      by_cases ha : a.1 = n
      · rw [decide_eq_true ha, decide_eq_true (by omega)]; rfl
      · rw [decide_eq_false ha]; rfl
    have e3 : as.filter (fun a => decide (a.1 = n) && decide (a.1 > b)) = [] := List.filter_eq_nil_iff.mpr fun a _ => by
      by_cases ha : a.1 = n
      · rw [decide_eq_false (p := a.1 > b) (by omega)]; simp
      · rw [decide_eq_false ha]; simp
    rw [e1, e3, List.append_nil]
  · have e1 : as.filter (fun a => decide (a.1 = n) && decide (a.1 ≤ b)) = [] := List.filter_eq_nil_iff.mpr fun a _ => by
      by_cases ha : a.1 = n
      · rw [decide_eq_false (p := a.1 ≤ b) (by omega)]; simp
      · rw [decide_eq_false ha]; simp
    have e3 : as.filter (fun a => decide (a.1 = n) && decide (a.1 > b)) = as.filter (fun a => decide (a.1 = n)) := List.filter_congr fun a _ => by
      by_cases ha : a.1 = n
      · rw [decide_eq_true ha, decide_eq_true (by omega)]; rfl
      · rw [decide_eq_false ha]; rfl
    rw [e1, e3]
    rfl
theorem asksB_at {as : List (Int × Int)} {b num : Int} : (asksB as b num).filter (fun a => decide (a.1 = b + 1)) = (b + 1, num) :: as.filter (fun a => decide (a.1 = b + 1)) := by
  unfold asksB
  rw [List.filter_append, List.filter_append, List.filter_filter, List.filter_filter]
  have e1 : as.filter (fun a => decide (a.1 = b + 1) && decide (a.1 ≤ b)) = [] := List.filter_eq_nil_iff.mpr fun a _ => by
    by_cases ha : a.1 = b + 1
    · rw [decide_eq_false (p := a.1 ≤ b) (by omega)]; simp
    · rw [decide_eq_false ha]; simp
  have e3 : as.filter (fun a => decide (a.1 = b + 1) && decide (a.1 > b)) = as.filter (fun a => decide (a.1 = b + 1)) := List.filter_congr fun a _ => by
    by_cases ha : a.1 = b + 1
    · rw [decide_eq_true ha, decide_eq_true (by omega)]; rfl
    · rw [decide_eq_false ha]; rfl
  rw [e1, e3, List.filter_cons_of_pos (by simp), List.filter_nil]
  rfl
theorem ask_at {as : List (Int × Int)} {ks : List Wk} {b num : Int} : askAll (b + 1) ks (asksB as b num) = askAll (b + 1) (ks.modify num.toNat Wk.start) as := by
  have e : askAll (b + 1) (ks.modify num.toNat Wk.start) as = askAll (b + 1) ks ((b + 1, num) :: as) := by
    show _ = askAll (b + 1) (askOne (b + 1) ks (b + 1, num)) as
    unfold askOne
    rw [if_pos rfl]
  rw [e]
  refine ask_filter ?_
  rw [asksB_at, List.filter_cons_of_pos (by simp)]
theorem after_asks (s : HS) : ∀ n, (s.after n).asks = s.asks
  | 0 => rfl
  | n + 1 => after_asks s n
theorem after_bt {s : HS} (b0 : s.beats = 0) : ∀ n : Nat, (s.after n).beats = n
  | 0 => by show s.beats = 0; exact b0
  | n + 1 => by
    show (s.after n).beats + 1 = _
    rw [after_bt b0 n]
    omega
theorem ask_beat {s t : HS} (O : HOk s) (E : Eq1 s t) {num : Int} (ha : askAll t.beats t.ks t.asks = askAll s.beats s.ks s.asks) (hs : s.prog[s.S.row.toNat]? = some (.ask num)) (ht : t.prog[s.S.row.toNat]? = some (.rest 1)) (hl : t.prog.length = s.prog.length) :
    t.next.S = s.next.S ∧ s.next.ks = t.next.ks.modify num.toNat Wk.start ∧ t.next.took = s.next.took ∧ t.next.ws = s.next.ws ∧ t.next.beats = s.next.beats ∧ t.ent = s.ent := by
  have sp : s.S.spent + 1 = 1 := by
    have h1 := O.m.sp1 _ hs
    have h0 := O.m.sp0
    have h2 : (Row.ask num).beats = 1 := rfl
    omega
  have e0 : wantedOf t.prog t.S = wantedOf s.prog s.S := by
    unfold wantedOf
    rw [E.S, hs, ht]
    rfl
  have e1 : t.dm = s.dm := by unfold HS.dm; rw [ha, E.took, e0, E.S, E.ws]
  have es : s.ms = ({ s.S with row := s.S.row + 1, spent := 0 }, s.dm.1.modify num.toNat Wk.start, s.dm.2.2.1, .goes) := by
    unfold HS.ms mstep
    rw [hs]
    show ((tick s.prog.length { s.S with spent := s.S.spent + 1 } s.dm.1 (.ask num)).1, (tick s.prog.length { s.S with spent := s.S.spent + 1 } s.dm.1 (.ask num)).2, s.dm.2.2.1, MT.goes) = _
    unfold tick
    rw [if_pos (show s.S.spent + 1 = (Row.ask num).beats from sp)]
    rfl
  have et : t.ms = ({ s.S with row := s.S.row + 1, spent := 0 }, s.dm.1, s.dm.2.2.1, .goes) := by
    unfold HS.ms mstep
    rw [E.S, ht, e1]
    show ((tick t.prog.length { s.S with spent := s.S.spent + 1 } s.dm.1 (.rest 1)).1, (tick t.prog.length { s.S with spent := s.S.spent + 1 } s.dm.1 (.rest 1)).2, s.dm.2.2.1, MT.goes) = _
    unfold tick
    rw [if_pos (show s.S.spent + 1 = (Row.rest 1).beats from sp)]
    rfl
  refine ⟨?_, ?_, ?_, ?_, ?_, ?_⟩
  · show t.ms.1 = s.ms.1; rw [es, et]
  · show s.ms.2.1 = t.ms.2.1.modify _ _; rw [es, et]
  · show t.dm.2.1 = s.dm.2.1; rw [e1]
  · show t.ms.2.2.1 = s.ms.2.2.1; rw [es, et]
  · show t.beats + 1 = s.beats + 1; rw [E.beats]
  · unfold HS.ent; rw [e1, es, et]
theorem asked27 {progA progR : List Row} {as : List (Int × Int)} {ks : List Wk} {ws : List Int} {num : Int} {at_ : Nat} {b : Int} (O : HOk (HS.at0 progA as ks ws)) (st : StrP progA) (hl : progR.length = progA.length) (hA : progA[at_]? = some (.ask num)) (hR : progR[at_]? = some (.rest 1)) (hO : ∀ i, i ≠ at_ → progR[i]? = progA[i]?)
    (hb : dnN (HS.at0 progA as ks ws) 300 (at_ : Int) = some b) (hb2 : b + 1 < 300) : (∀ n, ((HS.at0 progR (asksB as b num) ks ws).after n).ent = ((HS.at0 progA as ks ws).after n).ent) ∧ Eq1 ((HS.at0 progA as ks ws).after 300) ((HS.at0 progR (asksB as b num) ks ws).after 300) := by
  obtain ⟨j, hj, ej, dj, rj, fj⟩ := dn_val (s := HS.at0 progA as ks ws) rfl 300 _ b hb
  subst ej
  generalize hs : HS.at0 progA as ks ws = s at *
  generalize ht : HS.at0 progR (asksB as (j : Int) num) ks ws = t at *
  have sp : s.prog = progA := by rw [← hs]; rfl
  have tp : t.prog = progR := by rw [← ht]; rfl
  have sa : s.asks = as := by rw [← hs]; rfl
  have ta : t.asks = asksB as (j : Int) num := by rw [← ht]; rfl
  have sb : s.beats = 0 := by rw [← hs]; rfl
  have tb : t.beats = 0 := by rw [← ht]; rfl
  have sbn := fun n => after_bt sb n
  have tbn := fun n => after_bt tb n
  have spn := fun n => (after_progS s n).trans sp
  have tpn := fun n => (after_progS t n).trans tp
  have san := fun n => (after_asks s n).trans sa
  have tan := fun n => (after_asks t n).trans ta
  have lpn : ∀ n, (t.after n).prog.length = (s.after n).prog.length := fun n => by rw [spn, tpn, hl]
  have row0 : ∀ n, 0 ≤ (s.after n).S.row := fun n => (O.after n).m.row0
  have ask_ne : ∀ n : Nat, n ≠ j + 1 → ∀ ks : List Wk, askAll (n : Int) ks (asksB as (j : Int) num) = askAll (n : Int) ks as := fun n hn ks => ask_filter (asksB_filter (by omega))
  have rowne : ∀ n, n < j → (s.after n).S.row ≠ (at_ : Int) := fun n hn z => by
    have hd : (s.after n).doneB = true := by
      have hr : (s.after n).prog[(s.after n).S.row.toNat]? = some (.ask num) := by
        rw [spn, z]
        simpa using hA
      have h1 := (O.after n).m.sp1 _ hr
      have h0 := (O.after n).m.sp0
      have h2 : (Row.ask num).beats = 1 := rfl
      have sp1 : (s.after n).S.spent + 1 = 1 := by omega
      have es : (s.after n).ms = ({ (s.after n).S with row := (s.after n).S.row + 1, spent := 0 }, (s.after n).dm.1.modify num.toNat Wk.start, (s.after n).dm.2.2.1, .goes) := by
        unfold HS.ms mstep
        rw [hr]
        show ((tick (s.after n).prog.length { (s.after n).S with spent := (s.after n).S.spent + 1 } (s.after n).dm.1 (.ask num)).1, (tick (s.after n).prog.length { (s.after n).S with spent := (s.after n).S.spent + 1 } (s.after n).dm.1 (.ask num)).2, (s.after n).dm.2.2.1, MT.goes) = _
        unfold tick
        rw [if_pos (show (s.after n).S.spent + 1 = (Row.ask num).beats from sp1)]
        rfl
      rw [doneB_c]
      have e1 : (s.after n).ent.2 = .goes := by show (s.after n).ms.2.2.2 = _; rw [es]
      have e2 : (s.after n).next.S.spent = 0 := by show (s.after n).ms.1.spent = _; rw [es]
      rw [e1, e2]
      rfl
    exact fj n hn ⟨hd, z⟩
  have before : ∀ n, n ≤ j → Eq1 (s.after n) (t.after n) ∧ ∀ i, i < n → (t.after i).ent = (s.after i).ent := fun n => by
    induction n with
    | zero =>
      intro _
      refine ⟨?_, fun i hi => by omega⟩
      show Eq1 s t
      rw [← hs, ← ht]
      exact ⟨rfl, rfl, rfl, rfl, rfl⟩
    | succ n ih =>
      intro hn
      obtain ⟨E, he⟩ := ih (by omega)
      have hne := rowne n (by omega)
      have r0 := row0 n
      have := step_eq E.S E.took E.ws E.beats (by rw [E.beats, E.ks, san, tan, sbn]; exact ask_ne n (by omega) _) (by rw [spn, tpn]; exact hO _ (by omega)) (lpn n)
      refine ⟨this.1, fun i hi => ?_⟩
      by_cases hin : i = n
      · rw [hin]; exact this.2
      · exact he i (by omega)
  obtain ⟨Ej, hej⟩ := before j (Nat.le_refl _)
  have hAj : (s.after j).prog[(s.after j).S.row.toNat]? = some (.ask num) := by rw [spn, rj]; simpa using hA
  have hRj : (t.after j).prog[(s.after j).S.row.toNat]? = some (.rest 1) := by rw [tpn, rj]; simpa using hR
  obtain ⟨a1, a2, a3, a4, a5, a6⟩ := ask_beat (O.after j) Ej (by rw [Ej.beats, Ej.ks, san, tan, sbn]; exact ask_ne j (by omega) _) hAj hRj (lpn j)
  have stn : ∀ n, StrP (s.after n).prog := fun n => by rw [spn]; exact st
  have rgt : ∀ k, (at_ : Int) < (s.after (j + 1 + k)).S.row := fun k => by
    induction k with
    | zero =>
      have h1 := row_step (O.after j) (stn j)
      have hlt : (s.after j).S.row < (s.after j).prog.length := by
        have := (List.getElem?_eq_some_iff.mp hAj).1
        have := row0 j
        omega
      have h2 := (h1.2.1 hlt).mp dj
      have h3 := h1.1
      show (at_ : Int) < (s.after j).next.S.row
      omega
    | succ k ih =>
      have h1 := (row_step (O.after (j + 1 + k)) (stn _)).1
      show (at_ : Int) < (s.after (j + 1 + k)).next.S.row
      omega
  have behind : ∀ k, Eq1 (s.after (j + 2 + k)) (t.after (j + 2 + k)) ∧ (t.after (j + 1 + k)).ent = (s.after (j + 1 + k)).ent := fun k => by
    induction k with
    | zero =>
      have r0 := row0 (j + 1)
      have rg := rgt 0
      exact step_eq (s := s.after (j + 1)) (t := t.after (j + 1)) a1 a3 a4 a5 (by
        rw [tan, san, tbn, sbn]
        have e : (s.after (j + 1)).ks = (t.after (j + 1)).ks.modify num.toNat Wk.start := a2
        rw [e, show ((j + 1 : Nat) : Int) = (j : Int) + 1 by omega]
        exact ask_at) (by rw [spn, tpn]; exact hO _ (by have : (at_ : Int) < (s.after (j + 1)).S.row := rg; omega)) (lpn (j + 1))
    | succ k ih =>
      obtain ⟨E, _⟩ := ih
      have r0 := row0 (j + 2 + k)
      have rg := rgt (k + 1)
      have e12 : j + 1 + (k + 1) = j + 2 + k := by omega
      rw [e12] at rg ⊢
      exact step_eq (s := s.after (j + 2 + k)) (t := t.after (j + 2 + k)) E.S E.took E.ws E.beats (by rw [E.beats, E.ks, san, tan, sbn]; exact ask_ne (j + 2 + k) (by omega) _) (by rw [spn, tpn]; exact hO _ (by omega)) (lpn _)
  refine ⟨fun n => ?_, ?_⟩
  · by_cases h1 : n < j
    · exact hej n h1
    · by_cases h2 : n = j
      · rw [h2]; exact a6
      · have := (behind (n - (j + 1))).2
        rw [show j + 1 + (n - (j + 1)) = n by omega] at this
        exact this
  · have := (behind (300 - (j + 2))).1
    rw [show j + 2 + (300 - (j + 2)) = 300 by omega] at this
    exact this
structure Cut (e : Nat) (s t : HS) : Prop where
  cells : t.S.cells = s.S.cells
  marks : t.S.marks = s.S.marks
  spent : t.S.spent = s.S.spent
  row : (0 ≤ s.S.row ∧ s.S.row ≤ e ∧ t.S.row = s.S.row) ∨ (s.S.row = s.prog.length ∧ t.S.row = (e + 1 : Nat))
  ks : t.ks = s.ks
  took : t.took = s.took
  ws : t.ws = s.ws
  beats : t.beats = s.beats
  asks : t.asks = s.asks
theorem eff_cut {n m e : Nat} {S1 S2 : MS} {ks : List Wk} {r : Row} (g1 : ∀ x, r ≠ .go x) (g2 : ∀ x y, r ≠ .iff x y) (hc : S2.cells = S1.cells) (hm : S2.marks = S1.marks) (hr : S2.row = S1.row) :
    (eff m S2 ks r).1.cells = (eff n S1 ks r).1.cells ∧ (eff m S2 ks r).1.marks = (eff n S1 ks r).1.marks ∧ (eff m S2 ks r).1.spent = (eff n S1 ks r).1.spent ∧ (eff m S2 ks r).2 = (eff n S1 ks r).2 ∧ (r = .fin → (eff m S2 ks r).1.row = m ∧ (eff n S1 ks r).1.row = n) ∧ (r ≠ .fin → (eff m S2 ks r).1.row = S1.row + 1 ∧ (eff n S1 ks r).1.row = S1.row + 1) := by
  cases r <;> first | exact absurd rfl (g1 _) | exact absurd rfl (g2 _ _) | (simp only [eff, hc, hm, hr]; exact ⟨trivial, trivial, trivial, trivial, fun _ => ⟨trivial, trivial⟩, fun z => absurd rfl z⟩) | (simp only [eff, hc, hm, hr]; exact ⟨trivial, trivial, trivial, trivial, (fun z => by cases z), fun _ => ⟨trivial, trivial⟩⟩)
theorem Cut.next {e : Nat} {s t : HS} (C : Cut e s t) (st : StrP s.prog) (hl : e < s.prog.length) (hp : t.prog = s.prog.take (e + 1)) (he : s.prog[e]? = some .fin) (hf : ∀ i, i < e → s.prog[i]? ≠ some .fin) : Cut e s.next t.next ∧ t.ent = s.ent := by
  have tl : t.prog.length = e + 1 := by rw [hp, List.length_take]; omega
  have hrow : t.prog[t.S.row.toNat]? = s.prog[s.S.row.toNat]? := by
    rcases C.row with ⟨h0, h1, h2⟩ | ⟨h1, h2⟩
    · rw [h2, hp, List.getElem?_take]
      rw [if_pos (by omega)]
    · rw [h1, h2]
      rw [List.getElem?_eq_none (by rw [tl]; simp), List.getElem?_eq_none (by simp)]
  have e0 : wantedOf t.prog t.S = wantedOf s.prog s.S := by
    unfold wantedOf
    rw [hrow, C.spent, C.cells]
  have e1 : t.dm = s.dm := by unfold HS.dm; rw [C.beats, C.ks, C.asks, C.took, e0, C.marks, C.ws]
  have key : t.ms.1.cells = s.ms.1.cells ∧ t.ms.1.marks = s.ms.1.marks ∧ t.ms.1.spent = s.ms.1.spent ∧ ((0 ≤ s.ms.1.row ∧ s.ms.1.row ≤ e ∧ t.ms.1.row = s.ms.1.row) ∨ (s.ms.1.row = s.prog.length ∧ t.ms.1.row = (e + 1 : Nat))) ∧ t.ms.2 = s.ms.2 := by
    unfold HS.ms mstep
    rw [hrow, e1]
    cases hr : s.prog[s.S.row.toNat]? with
    | none => exact ⟨C.cells, C.marks, C.spent, C.row, rfl⟩
    | some r =>
      obtain ⟨g1, g2⟩ := st r (List.mem_of_getElem? hr)
      have hlt := (List.getElem?_eq_some_iff.mp hr).1
      obtain ⟨h0, h1, h2⟩ : 0 ≤ s.S.row ∧ s.S.row ≤ e ∧ t.S.row = s.S.row := by
        rcases C.row with h | ⟨h1, h2⟩
        · exact h
        · rw [h1] at hlt; simp at hlt
      have tk : ∀ (c : List Int) (ks : List Wk), (tick t.prog.length { t.S with cells := c, spent := t.S.spent + 1 } ks r).1.cells = (tick s.prog.length { s.S with cells := c, spent := s.S.spent + 1 } ks r).1.cells ∧ (tick t.prog.length { t.S with cells := c, spent := t.S.spent + 1 } ks r).1.marks = (tick s.prog.length { s.S with cells := c, spent := s.S.spent + 1 } ks r).1.marks ∧
          (tick t.prog.length { t.S with cells := c, spent := t.S.spent + 1 } ks r).1.spent = (tick s.prog.length { s.S with cells := c, spent := s.S.spent + 1 } ks r).1.spent ∧ ((0 ≤ (tick s.prog.length { s.S with cells := c, spent := s.S.spent + 1 } ks r).1.row ∧ (tick s.prog.length { s.S with cells := c, spent := s.S.spent + 1 } ks r).1.row ≤ e ∧ (tick t.prog.length { t.S with cells := c, spent := t.S.spent + 1 } ks r).1.row = (tick s.prog.length { s.S with cells := c, spent := s.S.spent + 1 } ks r).1.row) ∨
            ((tick s.prog.length { s.S with cells := c, spent := s.S.spent + 1 } ks r).1.row = s.prog.length ∧ (tick t.prog.length { t.S with cells := c, spent := t.S.spent + 1 } ks r).1.row = (e + 1 : Nat))) ∧ (tick t.prog.length { t.S with cells := c, spent := t.S.spent + 1 } ks r).2 = (tick s.prog.length { s.S with cells := c, spent := s.S.spent + 1 } ks r).2 := by
        intro c ks
        unfold tick
        show (if t.S.spent + 1 = r.beats then _ else _ : MS × List Wk).1.cells = (if s.S.spent + 1 = r.beats then _ else _ : MS × List Wk).1.cells ∧ _
        rw [C.spent]
        by_cases hb : s.S.spent + 1 = r.beats
        · simp only [if_pos hb]
          obtain ⟨q1, q2, q3, q4, q5, q6⟩ := eff_cut (e := e) (n := s.prog.length) (m := t.prog.length) (S1 := { s.S with cells := c, spent := s.S.spent + 1 }) (S2 := { t.S with cells := c, spent := s.S.spent + 1 }) (ks := ks) g1 g2 rfl C.marks h2
          refine ⟨q1, q2, q3, ?_, q4⟩
          by_cases hfin : r = .fin
          · obtain ⟨q7, q8⟩ := q5 hfin
            exact .inr ⟨q8, by rw [q7, tl]⟩
          · obtain ⟨q7, q8⟩ := q6 hfin
            have hne : s.S.row ≠ e := fun z => by
              rw [z] at hr
              have : s.prog[e]? = some r := by simpa using hr
              rw [he] at this
              exact hfin (Option.some.inj this).symm
            refine .inl ⟨?_, ?_, ?_⟩
            · rw [q8]; show 0 ≤ s.S.row + 1; omega
            · rw [q8]; show s.S.row + 1 ≤ _; omega
            · rw [q7, q8]
        · simp only [if_neg hb]
          exact ⟨trivial, C.marks, trivial, .inl ⟨h0, h1, h2⟩, trivial⟩
      have hw : r.word t.S.spent t.S.cells = r.word s.S.spent s.S.cells := by rw [C.spent, C.cells]
      simp only [hw]
      cases hww : r.word s.S.spent s.S.cells with
      | none =>
        simp only [hww]
        have := tk s.S.cells s.dm.1
        have ec : ({ t.S with spent := t.S.spent + 1 } : MS) = { t.S with cells := s.S.cells, spent := t.S.spent + 1 } := by rw [← C.cells]
        rw [ec]
        obtain ⟨q1, q2, q3, q4, q5⟩ := this
        exact ⟨q1, q2, q3, q4, by rw [q5]⟩
      | some z1 =>
        obtain ⟨z1, p1, d1⟩ := z1
        simp only [hww]
        by_cases htk : s.dm.2.1 = true
        · simp only [if_pos htk]
          exact ⟨C.cells, C.marks, C.spent, C.row, trivial⟩
        · simp only [if_neg htk]
          rw [C.cells]
          obtain ⟨q1, q2, q3, q4, q5⟩ := tk (useW z1 p1 d1 s.S.cells s.dm.2.2.1).1 s.dm.1
          exact ⟨q1, q2, q3, q4, by rw [q5]⟩
  obtain ⟨k1, k2, k3, k4, k5⟩ := key
  refine ⟨⟨k1, k2, k3, k4, ?_, ?_, ?_, ?_, C.asks⟩, ?_⟩
  · show t.ms.2.1 = s.ms.2.1; rw [k5]
  · show t.dm.2.1 = s.dm.2.1; rw [e1]
  · show t.ms.2.2.1 = s.ms.2.2.1; rw [k5]
  · show t.beats + 1 = s.beats + 1; rw [C.beats]
  · unfold HS.ent; rw [e1, k5]
theorem cut27 {prog : List Row} {as : List (Int × Int)} {ks : List Wk} {ws : List Int} {e : Nat} (st : StrP prog) (he : prog[e]? = some .fin) (hf : ∀ i, i < e → prog[i]? ≠ some .fin) : ∀ n, Cut e ((HS.at0 prog as ks ws).after n) ((HS.at0 (prog.take (e + 1)) as ks ws).after n) ∧ ∀ i, i < n → ((HS.at0 (prog.take (e + 1)) as ks ws).after i).ent = ((HS.at0 prog as ks ws).after i).ent
  | 0 => ⟨⟨rfl, rfl, rfl, .inl ⟨Int.le_refl 0, by show (0 : Int) ≤ e; omega, rfl⟩, rfl, rfl, rfl, rfl, rfl⟩, fun i hi => by omega⟩
  | n + 1 => by
    obtain ⟨C, h⟩ := cut27 st he hf n (as := as) (ks := ks) (ws := ws)
    have pn : ((HS.at0 prog as ks ws).after n).prog = prog := after_progS _ n
    have pc : ((HS.at0 (prog.take (e + 1)) as ks ws).after n).prog = prog.take (e + 1) := after_progS _ n
    have := C.next (by rw [pn]; exact st) (by rw [pn]; exact (List.getElem?_eq_some_iff.mp he).1) (by rw [pn, pc]) (by rw [pn]; exact he) (by rw [pn]; exact hf)
    refine ⟨this.1, fun i hi => ?_⟩
    by_cases hin : i = n
    · rw [hin]; exact this.2
    · exact h i (by omega)
end SB

set_option Elab.async false
set_option linter.all false
set_option maxRecDepth 100000
set_option maxHeartbeats 4000000
namespace SB
open PySem PySem.Spec PyProof.Rows L2
def spLaw (K : PySem.W.Frag) : Sp := fun vs H Q _ => ∃ (a : Addr) (ns : List Int), vs = [.ref a] ∧ SqL K H a (ns.map V.int) ∧ ns.length ≤ 63 ∧ ∀ H', Q (.bl true) H'
theorem viaV {te : TE} {σ : L2.St} {H : Hp} {Q : VK} {v : V} (h : ∀ Q' : VK, Q' v H → te σ H Q') (q : Q v H) : te σ H Q := h Q q
section
variable {P : Program} {w : World} {K : PySem.W.Frag} {mg : Str → Option Value} {base : Heap}
theorem okx {x qual : Str} {params : Arguments} {body : List Stmt} {scope : Scope} {f : Addr} {fd : FuncData} {N ps : List Str} {k : Nat} {sp : Sp} (F : FunD K x qual params body scope [] [] f fd) (S : FnScope N ps scope)
    (len : ∀ vs H Q E, sp vs H Q E → vs.length = ps.length)
    (hbody : ∀ (cdv : Value) (A : Around) (outer : List Env) (s : Shared) (H : Hp) (vs : List V) (Q : VK) (E : XK), Room k (A.deeper (envOfC qual scope s.heap.objs.size f cdv)) → sp vs H Q E →
      ∃ t, PSs (cxOf CX0 P w K mg base N qual scope f cdv A outer s H E).nox body t ∧ t { nx := fun _ H' => Q .non H', rt := Q } (start N vs) H) : FnOk P w K mg base CX0 (k + 1) f fd ps sp := by
  refine F.ok (CX := CX0) S len (fun cdv A outer s H vs Q E hr hs => ?_)
  obtain ⟨t, h1, h2⟩ := hbody cdv A outer s H vs Q E hr hs
  exact ⟨t, h1.nox, h2⟩
theorem DiceAt.inD {H : Hp} {d sl : Addr} {f p : Int} {cs : List Int} (D : DiceAt H d sl f p cs) : ∀ b ∈ [d, sl], ∃ u, H b = some u ∧ notTup u = true := fun b hb => by
  have e : b = d ∨ b = sl := by simpa using hb
  rcases e with rfl | rfl
  · exact ⟨_, D.ob, rfl⟩
  · exact ⟨_, D.ls, rfl⟩
theorem TupsAt.works {H : Hp} {wl : Addr} {ts : List Addr} {ks : List Wk} (t : TupsAt H wl ts (ks.map Wk.vs)) : WorksAt K H wl ts ks :=
  ⟨SqL.of t.lst, by rw [t.len, List.length_map], fun j p k e1 e2 => SqT.of (t.at_ j p _ e1 (by rw [List.getElem?_map, e2]; rfl))⟩
theorem TupsAt.asks {H : Hp} {al : Addr} {qs : List Addr} {as : List (Int × Int)} (t : TupsAt H al qs (as.map av)) : AsksAt K H al qs as :=
  ⟨SqL.of t.lst, by rw [t.len, List.length_map], fun j p x e1 e2 => SqT.of (t.at_ j p _ e1 (by rw [List.getElem?_map, e2]; rfl))⟩
end
end SB

set_option Elab.async false
set_option linter.all false
set_option maxRecDepth 100000
set_option maxHeartbeats 4000000
namespace SB
open PySem PySem.Spec PyProof.Rows L2
section
variable {K : PySem.W.Frag} {H H' : Hp}
def rowD (s : HS) : PyData := if s.S.row = s.prog.length then .none else .int s.S.row
def goD (g : Int × Int × Bool) : PyData := .tuple [.int g.1, .int g.2.1, .bool g.2.2]
def dSh (s : HS) : PyData := .tuple [.int s.beats, rowD s, .list (pyInts s.S.cells), .list (pyInts s.ws), .list (s.S.marks.map .bool), .list ((goFrom 0 s.ks).map goD)]
theorem dp_bls : ∀ bs : List Bool, DpAll K H (bs.map V.bl) (bs.map PyData.bool)
  | [] => .nil
  | b :: r => .cons (.bl b) (dp_bls r)
theorem dp_row (s : HS) : Dp K H (rowV s) (rowD s) := by
  unfold rowV rowD
  split
  · exact .non
  · exact .int _
theorem ShownAt.dp {H0 : Hp} {p c w' k g : Addr} {ps : List Addr} {s : HS} (h : ShownAt H0 H p c w' k g ps s) : Dp K H (.ref p) (dSh s) := by
  refine .tup (SqT.of h.tup) (.cons (.int _) (.cons (dp_row s) (.cons (.lst (SqL.of h.hc) (dp_ints _)) (.cons (.lst (SqL.of h.hw) (dp_ints _)) (.cons (.lst (SqL.of h.hk) (dp_bls _)) (.cons (.lst (SqL.of h.hg.lst) (dpAll_of ps (goFrom 0 s.ks) (by rw [h.hg.len, List.length_map]) (fun j p e h1 h2 => ?_))) .nil))))))
  have h3 := h.hg.at_ j p (goV e) h1 (by rw [List.getElem?_map, h2]; rfl)
  exact .tup (SqT.of h3) (.cons (.int _) (.cons (.int _) (.cons (.bl _) .nil)))
theorem lay_bls : ∀ bs : List Bool, PyData.canLayAll0 (bs.map PyData.bool) = true
  | [] => rfl
  | b :: r => by
    show (true && PyData.canLayAll0 (r.map PyData.bool)) = true
    rw [lay_bls r]
    rfl
theorem deep_bls : ∀ bs : List Bool, PyData.depthAll (bs.map PyData.bool) = 0
  | [] => rfl
  | b :: r => by
    show max 0 (PyData.depthAll (r.map PyData.bool)) = 0
    rw [deep_bls r]
    rfl
def dRun (es : List BeatE) (s : HS) : PyData := .tuple [.list (es.map dE), dSh s]
theorem row_lay (s : HS) : PyData.canLay0 (rowD s) = true ∧ PyData.depth (rowD s) = 0 := by
  unfold rowD
  split <;> exact ⟨rfl, rfl⟩
theorem dRun_shaped {es : List BeatE} (s : HS) (h : ∀ e ∈ es, PyData.canLay0 (dE e) = true) : SeqAt.shaped (dRun es s) = true := by
  have h1 := lay_all es h
  have h2 := deep_all dE_deep es
  have g1 := lay_all (f := goD) (goFrom 0 s.ks) (fun x _ => rfl)
  have g2 := deep_all (f := goD) (n := 1) (fun x => Nat.le_refl _) (goFrom 0 s.ks)
  have r := row_lay s
  have c1 := canLay_ints s.S.cells
  have c2 := depth_ints s.S.cells
  have w1 := canLay_ints s.ws
  have w2 := depth_ints s.ws
  have b1 := lay_bls s.S.marks
  have b2 := deep_bls s.S.marks
  show ((PyData.canLayAll0 (es.map dE) && ((true && (PyData.canLay0 (rowD s) && (PyData.canLayAll0 (pyInts s.S.cells) && (PyData.canLayAll0 (pyInts s.ws) && (PyData.canLayAll0 (s.S.marks.map .bool) && (PyData.canLayAll0 ((goFrom 0 s.ks).map goD) && true)))))) && true)) && decide (max (PyData.depthAll (es.map dE) + 1) (max (max 0 (max (PyData.depth (rowD s)) (max (PyData.depthAll (pyInts s.S.cells) + 1) (max (PyData.depthAll (pyInts s.ws) + 1) (max (PyData.depthAll (s.S.marks.map .bool) + 1) (max (PyData.depthAll ((goFrom 0 s.ks).map goD) + 1) 0))))) + 1) 0) + 1 ≤ 64)) = true
  rw [h1, g1, r.1, c1, w1, b1, decide_eq_true (by omega)]
  rfl
theorem dSh_eq {s t : HS} (hb : t.beats = s.beats) (hr : rowD t = rowD s) (hc : t.S.cells = s.S.cells) (hm : t.S.marks = s.S.marks) (hw : t.ws = s.ws) (hk : t.ks = s.ks) : dSh t = dSh s := by
  unfold dSh
  rw [hb, hr, hc, hm, hw, hk]
theorem cut_drop {xs : List V} {n : Nat} : cutV xs (some (n : Int)) none = xs.drop n := by
  unfold cutV
  rw [HT.sIx_nat]
  show (xs.drop (min n xs.length)).take (xs.length - min n xs.length) = _
  by_cases h : n ≤ xs.length
  · rw [Nat.min_eq_left h, List.take_of_length_le (by rw [List.length_drop]; exact Nat.le_refl _)]
  · rw [Nat.min_eq_right (by omega), List.drop_of_length_le (Nat.le_refl _), List.drop_of_length_le (by omega), List.take_nil]
theorem sl_hi {a : Addr} {xs : List V} {n : Nat} {Q : VK} (h : SqT K H a xs) (q : ∀ H' p, SqT K H' p (xs.take n) → Same H H' → Q (.ref p) H') : rSlA K (.ref a) none (some (n : Int)) H Q := by
  refine ⟨a, xs, rfl, h, fun hw => ?_, fun _ p np => ?_⟩
  · refine q H a ?_ (Same.refl _)
    have := hw.2
    rw [HT.sIx_nat] at this
    rw [List.take_of_length_le (by omega)]
    exact h
  · refine q _ p ?_ (Same.new (Same.refl _) np)
    rw [cut_take]
    exact SqT.of upd_same
theorem sl_lo {a : Addr} {xs : List V} {n : Nat} {Q : VK} (h : SqT K H a xs) (q : ∀ H' p, SqT K H' p (xs.drop n) → Same H H' → Q (.ref p) H') : rSlA K (.ref a) (some (n : Int)) none H Q := by
  refine ⟨a, xs, rfl, h, fun hw => ?_, fun _ p np => ?_⟩
  · refine q H a ?_ (Same.refl _)
    have := hw.1
    rw [HT.sIx_nat] at this
    by_cases h0 : n = 0
    · rw [h0]; exact h
    · have : xs = [] := List.length_eq_zero_iff.mp (by omega)
      rw [this] at h ⊢
      rw [List.drop_nil]
      exact h
  · refine q _ p ?_ (Same.new (Same.refl _) np)
    rw [cut_drop]
    exact SqT.of upd_same
theorem cat_any {a b : Addr} {xs ys : List V} {Q : VK} (ha : SqT K H a xs) (hb : SqT K H b ys) (hl : xs.length + ys.length ≤ sizeLine) (q : ∀ H' p, SqT K H' p (xs ++ ys) → Same H H' → Q (.ref p) H') : rCatA K (.ref a) (.ref b) H Q := by
  refine ⟨a, b, xs, ys, rfl, rfl, ha, hb, hl, fun h => ?_, fun _ h => ?_, fun _ _ p np => ?_⟩
  · refine q H b ?_ (Same.refl _)
    rw [h]
    exact hb
  · refine q H a ?_ (Same.refl _)
    rw [h, List.append_nil]
    exact ha
  · exact q _ p (SqT.of upd_same) (Same.new (Same.refl _) np)
theorem ins_row {σ : L2.St} {Q : VK} {pa : Addr} {rs : List Addr} {prog : List Row} {n : Nat} {r : Row} {tm : TE} (h3 : σ[3]? = some (some (.ref pa))) (h7 : σ[7]? = some (some (.int (n : Int)))) (Pr : ProgAt K H pa rs prog) (p40 : prog.length ≤ 40) (hn : n ≤ prog.length)
    (hm : ∀ (H1 : Hp) (Q1 : VK), Same H H1 → (∀ H2 p t, Same H1 H2 → H2 p = some (.tup [.ref t]) → H2 t = some (.tup r.vs) → Q1 (.ref p) H2) → tm σ H1 Q1)
    (q : ∀ H' pk rk, ProgAt K H' pk rk (prog.take n ++ [r] ++ prog.drop n) → Same H H' → Q (.ref pk) H') :
    tOp (rCatA K) (tOp (rCatA K) (tSl (rSlA K) (tVar 3) tNoPart (tPart (tVar 7))) tm) (tSl (rSlA K) (tVar 3) (tPart (tVar 7)) tNoPart) σ H Q := by
  have sz : rs.length ≤ 40 := by rw [Pr.len]; exact p40
  refine ⟨_, h3, _, h7, _, rfl, sl_hi Pr.tup (fun H1 p1 hp1 s1 => ?_)⟩
  refine hm H1 _ s1 (fun H2 p2 t2 s2 hp2 ht2 => ?_)
  have s02 := s1.trans s2
  refine cat_any (Same.tup s2 hp1) (SqT.of hp2) (by rw [List.length_take, List.length_map]; exact Nat.le_trans (show _ ≤ 41 by simp; omega) (by decide)) (fun H3 p3 hp3 s3 => ?_)
  have s03 := s02.trans s3
  refine ⟨_, h3, _, h7, _, rfl, ?_⟩
  dsimp only [tNoPart]
  refine sl_lo (Same.tup s03 Pr.tup) (fun H4 p4 hp4 s4 => ?_)
  refine cat_any (Same.tup s4 hp3) hp4 (by simp only [List.length_append, List.length_take, List.length_drop, List.length_map]; exact Nat.le_trans (show _ ≤ 100 by simp; omega) (by decide)) (fun H5 p5 hp5 s5 => ?_)
  have s05 := (s03.trans s4).trans s5
  have s25 := (s3.trans s4).trans s5
  refine q H5 p5 (rs.take n ++ [t2] ++ rs.drop n) ⟨?_, ?_, fun j t r' e1 e2 => ?_⟩ s05
  · have e : (rs.take n ++ [t2] ++ rs.drop n).map V.ref = (rs.map V.ref).take n ++ [.ref t2] ++ (rs.map V.ref).drop n := by
      simp [List.map_take, List.map_drop]
    rw [e]
    exact hp5
  · simp [Pr.len]
  · have ln : (rs.take n).length = n := by rw [List.length_take, Pr.len]; omega
    have lp : (prog.take n).length = n := by rw [List.length_take]; omega
    rw [List.append_assoc] at e1 e2
    by_cases hj : j < n
    · rw [List.getElem?_append_left (by omega), List.getElem?_take, if_pos hj] at e1
      rw [List.getElem?_append_left (by omega), List.getElem?_take, if_pos hj] at e2
      exact Same.tup s05 (Pr.at_ j t r' e1 e2)
    · rw [List.getElem?_append_right (by omega), ln] at e1
      rw [List.getElem?_append_right (by omega), lp] at e2
      by_cases hj2 : j = n
      · subst hj2
        rw [Nat.sub_self] at e1 e2
        have a1 : t2 = t := by simpa using e1
        have a2 : r = r' := by simpa using e2
        subst a1 a2
        exact Same.tup s25 (SqT.of ht2)
      · obtain ⟨k, hk⟩ : ∃ k, j - n = k + 1 := ⟨j - n - 1, by omega⟩
        rw [hk] at e1 e2
        have a1 : rs[n + k]? = some t := by simpa using e1
        have a2 : prog[n + k]? = some r' := by simpa using e2
        exact Same.tup s05 (Pr.at_ _ t r' a1 a2)
theorem TupsAt.app {R1 R2 R : Addr} {us1 us2 : List Addr} {v1 v2 : List (List V)} (a : TupsAt H R1 us1 v1) (b : TupsAt H R2 us2 v2) (h : H R = some (.lst (us1.map V.ref ++ us2.map V.ref))) : TupsAt H R (us1 ++ us2) (v1 ++ v2) := by
  refine ⟨by rw [h, List.map_append], by simp [a.len, b.len], fun j p vs e1 e2 => ?_⟩
  by_cases hj : j < us1.length
  · rw [List.getElem?_append_left hj] at e1
    rw [List.getElem?_append_left (by rw [← a.len]; exact hj)] at e2
    exact a.at_ j p vs e1 e2
  · rw [List.getElem?_append_right (by omega)] at e1
    rw [List.getElem?_append_right (by rw [← a.len]; omega), ← a.len] at e2
    exact b.at_ _ p vs e1 e2
theorem pw_of {as : List (Int × Int)} (h : ∀ (i : Nat) a b, as[i]? = some a → as[i + 1]? = some b → a.1 ≤ b.1) : as.Pairwise fun a b => a.1 ≤ b.1 := by
  induction as with
  | nil => exact .nil
  | cons x r ih =>
    have ih' := ih (fun i a b e1 e2 => h (i + 1) a b (by simpa using e1) (by simpa using e2))
    refine .cons (fun y hy => ?_) ih'
    cases r with
    | nil => cases hy
    | cons z r =>
      have h1 := h 0 x z rfl rfl
      rcases List.mem_cons.mp hy with rfl | hy
      · exact h1
      · have h2 := (List.pairwise_cons.mp ih').1 y hy
        omega
theorem of_pw {as : List (Int × Int)} (h : as.Pairwise fun a b => a.1 ≤ b.1) (i : Nat) (a b : Int × Int) (e1 : as[i]? = some a) (e2 : as[i + 1]? = some b) : a.1 ≤ b.1 := by
  have h1 := (List.getElem?_eq_some_iff.mp e1)
  have h2 := (List.getElem?_eq_some_iff.mp e2)
  obtain ⟨i1, rfl⟩ := h1
  obtain ⟨i2, rfl⟩ := h2
  exact List.pairwise_iff_getElem.mp h i (i + 1) i1 i2 (by omega)
theorem filter2 {as : List (Int × Int)} {b : Int} : (as.filter (fun a => decide (a.1 ≤ b))).length + (as.filter (fun a => decide (a.1 > b))).length = as.length := by
  induction as with
  | nil => rfl
  | cons x r ih =>
    by_cases h : x.1 ≤ b
    · rw [List.filter_cons_of_pos (by simpa using h), List.filter_cons_of_neg (by simp; omega)]
      simp only [List.length_cons]
      omega
    · rw [List.filter_cons_of_neg (by simpa using h), List.filter_cons_of_pos (by simp; omega)]
      simp only [List.length_cons]
      omega
theorem asksB_ok {as : List (Int × Int)} {b num : Int} {n : Nat} (A : AOk n as) (l7 : as.length ≤ 7) (b0 : 0 ≤ b) (b1 : b < 200) (n0 : 0 ≤ num) (n1 : num < n) : AOk n (asksB as b num) := by
  unfold asksB
  refine ⟨?_, fun a ha => ?_, of_pw ?_⟩
  · have := filter2 (as := as) (b := b)
    simp only [List.length_append, List.length_cons, List.length_nil]
    omega
  · rcases List.mem_append.mp ha with ha | ha
    · rcases List.mem_append.mp ha with ha | ha
      · exact A.each a (List.mem_filter.mp ha).1
      · have e : a = (b + 1, num) := by simpa using ha
        rw [e]
        exact ⟨⟨by show (0 : Int) ≤ b + 1; omega, by show b + 1 ≤ 200; omega⟩, n0, n1⟩
    · exact A.each a (List.mem_filter.mp ha).1
  · have pw := pw_of A.srt
    refine List.pairwise_append.mpr ⟨List.pairwise_append.mpr ⟨pw.filter _, List.pairwise_singleton _ _, fun x hx y hy => ?_⟩, pw.filter _, fun x hx y hy => ?_⟩
    · have e : y = (b + 1, num) := by simpa using hy
      have := (List.mem_filter.mp hx).2
      simp at this
      rw [e]
      show x.1 ≤ b + 1
      omega
    · have hy2 := (List.mem_filter.mp hy).2
      simp at hy2
      rcases List.mem_append.mp hx with hx | hx
      · have := (List.mem_filter.mp hx).2
        simp at this
        omega
      · have e : x = (b + 1, num) := by simpa using hx
        rw [e]
        show b + 1 ≤ y.1
        omega
theorem ao_take {as : List (Int × Int)} {n : Nat} (A : AOk n as) (m : Nat) : AOk n (as.take m) := by
  refine ⟨Nat.le_trans (by rw [List.length_take]; exact Nat.min_le_right _ _) A.len, fun a ha => A.each a (List.mem_of_mem_take ha), of_pw ?_⟩
  exact (pw_of A.srt).sublist (List.take_sublist _ _)
mutual
theorem dp_same (s : Same H H') : ∀ {v : V} {d : PyData}, Dp K H v d → Dp K H' v d
  | _, _, .non => .non
  | _, _, .bl b => .bl b
  | _, _, .int i => .int i
  | _, _, .str x => .str x
  | _, _, .lst h t => .lst (s.seq h) (dpAll_same s t)
  | _, _, .tup h t => .tup (Same.tup s h) (dpAll_same s t)
theorem dpAll_same (s : Same H H') : ∀ {vs : List V} {ds : List PyData}, DpAll K H vs ds → DpAll K H' vs ds
  | _, _, .nil => .nil
  | _, _, .cons h t => .cons (dp_same s h) (dpAll_same s t)
end
theorem wipe1 {σ : L2.St} {i : Nat} {x : Option V} : wipe ((wipe σ [i]).set i x) [i] = wipe σ [i] := by
  simp [wipe]
theorem look1 {σ : L2.St} {i : Nat} {x : Option V} (h : i < σ.length) : ((wipe σ [i]).set i x)[i]? = some x := by
  simp [wipe, h]
theorem look1' {σ : L2.St} {i j : Nat} {x : Option V} (h : j ≠ i) : ((wipe σ [i]).set i x)[j]? = σ[j]? := by
  simp [wipe, List.getElem?_set, Ne.symm h]
theorem asks_lc {σ : L2.St} {al : Addr} {qs : List Addr} {as : List (Int × Int)} {b : Int} {rel : Int → Int → Bool} {Q : VK} (hl : σ.length = 21) (h6 : σ[6]? = some (some (.ref al))) (h11 : σ[11]? = some (some (.int b))) (A : TupsAt H al qs (as.map av)) (l8 : as.length ≤ 8)
    (q : ∀ H' R us, TupsAt H' R us ((as.filter fun a => rel a.1 b).map av) → Same H H' → H R = none → Q (.ref R) H') :
    tLc (iList K (tVar 6)) (gName 20) (tTest (tOp (rI0 fun i j => .bl (rel i j)) (tOp (rIxT K) (tVar 20) (tC (.int 0))) (tVar 11))) (tVar 20) [20] σ H Q := by
  refine ⟨_, h6, al, rfl, ⟨_, SqL.of A.lst⟩, fun R nR => ?_⟩
  refine lc_list (K := K) (a := al) (xs := qs.map V.ref) (fun i H2 => ∃ us, TupsAt H2 R us (((as.take i).filter fun a => rel a.1 b).map av) ∧ Same H H2)
    ⟨[], ⟨upd_same, rfl, fun j p vs e1 _ => by simp at e1⟩, Same.new (Same.refl _) nR⟩ (fun i H2 _ ⟨_, _, s⟩ => SqL.of (s _ _ A.lst)) ?_ ?_
  · rintro i x H2 hx ⟨us, T2, s2⟩
    rw [List.getElem?_map] at hx
    cases ht : qs[i]? with
    | none => rw [ht] at hx; cases hx
    | some t =>
      rw [ht] at hx
      cases hx
      have hi : i < as.length := by
        have := (List.getElem?_eq_some_iff.mp ht).1
        rw [A.len, List.length_map] at this
        exact this
      obtain ⟨x, hx⟩ : ∃ x, as[i]? = some x := ⟨_, List.getElem?_eq_getElem hi⟩
      have h0 := A.at_ i t (av x) ht (by rw [List.getElem?_map, hx]; rfl)
      have h2 := s2 _ _ h0
      have et : as.take (i + 1) = as.take i ++ [x] := by
        rw [List.take_add_one, hx]
        rfl
      refine ⟨wipe1, ?_⟩
      refine ⟨.ref t, look1 (by omega), _, _, _, _, rfl, rfl, SqT.of h2, rfl, .int b, by rw [look1' (by decide)]; exact h11, _, _, rfl, rfl, _, rfl, ?_⟩
      cases hr : rel x.1 b with
      | true =>
        refine iteT ⟨.ref t, look1 (by omega), _, T2.lst, ?_, us ++ [t], ?_, Same.new s2 nR⟩
        · rw [List.length_map, T2.len, List.length_map]
          have h1 := List.length_filter_le (fun a : Int × Int => rel a.1 b) (as.take i)
          rw [List.length_take] at h1
          exact Nat.lt_of_le_of_lt (show _ ≤ 8 by omega) (by decide)
        · have em : us.map V.ref ++ [.ref t] = (us ++ [t]).map V.ref := by simp
          have e2 : ((as.take (i + 1)).filter fun a => rel a.1 b).map av = ((as.take i).filter fun a => rel a.1 b).map av ++ [av x] := by
            rw [et, List.filter_append, List.filter_cons_of_pos (by exact hr), List.filter_nil, List.map_append]
            rfl
          rw [em, e2]
          exact T2.push h2
      | false =>
        refine iteF ⟨us, ?_, s2⟩
        rw [et, List.filter_append, List.filter_cons_of_neg (by rw [hr]; decide), List.filter_nil, List.append_nil]
        exact T2
  · rintro H2 ⟨us, T2, s2⟩
    rw [List.length_map, A.len, List.length_map, List.take_length] at T2
    exact q _ _ _ T2 s2 nR
theorem viaIf2 {tt : TT} {A B : TS} {D0 : Ends} {σ : L2.St} {H : Hp} (J : L2.St → Hp → Prop) (h : ∀ D : Ends, (∀ σ' H', J σ' H' → D.nx σ' H') → tIfS tt A B D σ H) (rest : ∀ σ' H', J σ' H' → D0.nx σ' H') : tIfS tt A B D0 σ H := h D0 rest
theorem LogAt.cut {l R : Addr} {ps : List Addr} {es : List BeatE} {n : Nat} (h : LogAt H l ps es) (hR : H R = some (.lst ((ps.map V.ref).take n))) : LogAt H R (ps.take n) (es.take n) := by
  refine ⟨by rw [hR, List.map_take], by rw [List.length_take, List.length_take, h.len], fun j p e e1 e2 => ?_⟩
  rw [List.getElem?_take] at e1 e2
  split at e1
  · rename_i hj
    rw [if_pos hj] at e2
    exact h.at_ j p e e1 e2
  · cases e1
theorem LogAt.dpl {l : Addr} {ps : List Addr} {es : List BeatE} (h : LogAt H l ps es) : Dp K H (.ref l) (.list (es.map dE)) := .lst (SqL.of h.lst) h.dpAll
theorem log_take {s : HS} {n m : Nat} (h : n ≤ m) : (s.log m).take n = s.log n := by
  unfold HS.log
  rw [← List.map_take, List.take_range, Nat.min_eq_left h]
theorem log_congr {s t : HS} {n : Nat} (h : ∀ i, i < n → (t.after i).ent = (s.after i).ent) : t.log n = s.log n := by
  unfold HS.log
  exact List.map_congr_left fun i hi => h i (List.mem_range.mp hi)
structure ShF (H : Hp) (p c w' k g : Addr) (ps : List Addr) (s : HS) : Prop where
  tup : H p = some (.tup [.int s.beats, rowV s, .ref c, .ref w', .ref k, .ref g])
  hc : H c = some (.lst (s.S.cells.map V.int))
  hw : H w' = some (.lst (s.ws.map V.int))
  hk : H k = some (.lst (s.S.marks.map V.bl))
  hg : TupsAt H g ps ((goFrom 0 s.ks).map goV)
theorem ShF.same {p c w' k g : Addr} {ps : List Addr} {s : HS} (h : ShF H p c w' k g ps s) (e : Same H H') : ShF H' p c w' k g ps s := ⟨e _ _ h.tup, e _ _ h.hc, e _ _ h.hw, e _ _ h.hk, h.hg.keep e⟩
theorem ShF.keep {p c w' k g : Addr} {ps : List Addr} {s : HS} {as : List Addr} (h : ShF H p c w' k g ps s) (e : Kept as H H') (hx : ∀ x ∈ [c, w', k, g], x ∉ as) (hn : ∀ b ∈ as, ∃ u, H b = some u ∧ notTup u = true) : ShF H' p c w' k g ps s :=
  ⟨Tk.of e hn _ _ h.tup, e _ _ h.hc (hx _ (by simp)), e _ _ h.hw (hx _ (by simp)), e _ _ h.hk (hx _ (by simp)), h.hg.stay e (hx _ (by simp)) hn⟩
theorem ShF.dp {p c w' k g : Addr} {ps : List Addr} {s : HS} (h : ShF H p c w' k g ps s) : Dp K H (.ref p) (dSh s) := by
  refine .tup (SqT.of h.tup) (.cons (.int _) (.cons (dp_row s) (.cons (.lst (SqL.of h.hc) (dp_ints _)) (.cons (.lst (SqL.of h.hw) (dp_ints _)) (.cons (.lst (SqL.of h.hk) (dp_bls _)) (.cons (.lst (SqL.of h.hg.lst) (dpAll_of ps (goFrom 0 s.ks) (by rw [h.hg.len, List.length_map]) (fun j p e h1 h2 => ?_))) .nil))))))
  have h3 := h.hg.at_ j p (goV e) h1 (by rw [List.getElem?_map, h2]; rfl)
  exact .tup (SqT.of h3) (.cons (.int _) (.cons (.int _) (.cons (.bl _) .nil)))
def dRow (r : Row) : PyData := .tuple (.str r.nm :: r.parts.map fun p => PyData.int p.1)
def Row.isF : Row → Bool
  | .fin => true
  | _ => false
theorem dp_parts : ∀ xs : List (Int × Str), DpAll K H (xs.map fun p => V.int p.1) (xs.map fun p => PyData.int p.1)
  | [] => .nil
  | x :: r => .cons (.int _) (dp_parts r)
theorem dRow_dp {t : Addr} {r : Row} (h : SqT K H t r.vs) : Dp K H (.ref t) (dRow r) := by
  rw [Row.vs_eq] at h
  exact .tup h (.cons (.str _) (dp_parts _))
theorem dRow_sh (r : Row) : SeqAt.shaped (dRow r) = true := by cases r <;> kernel_rfl
theorem dRow_end (r : Row) : PyData.eqv (dRow r) (.tuple [.str "end"]) = r.isF := by cases r <;> kernel_rfl
theorem isF_fin {r : Row} (h : r.isF = true) : r = .fin := by cases r <;> first | rfl | cases h
def endsN (prog : List Row) (i : Nat) : List Nat := (List.range i).filter fun k => match prog[k]? with
  | some r => r.isF
  | none => false
theorem endsN_succ (prog : List Row) (i : Nat) : endsN prog (i + 1) = endsN prog i ++ (if (match prog[i]? with | some r => r.isF | none => false) = true then [i] else []) := by
  unfold endsN
  rw [List.range_succ, List.filter_append]
  congr 1
  by_cases h : (match prog[i]? with | some r => r.isF | none => false) = true
  · rw [if_pos h, List.filter_cons_of_pos (by exact h), List.filter_nil]
  · rw [if_neg h, List.filter_cons_of_neg (by exact h), List.filter_nil]
theorem ends_first {prog : List Row} {L e : Nat} {r : List Nat} (h : endsN prog L = e :: r) : e < L ∧ prog[e]? = some .fin ∧ ∀ i, i < e → prog[i]? ≠ some .fin := by
  have hm : e ∈ endsN prog L := by rw [h]; exact List.mem_cons_self
  obtain ⟨h1, h2⟩ := List.mem_filter.mp hm
  have hL := List.mem_range.mp h1
  refine ⟨hL, ?_, fun i hi hf => ?_⟩
  · cases hr : prog[e]? with
    | none => rw [hr] at h2; cases h2
    | some x => rw [hr] at h2; rw [isF_fin h2]
  · have hi2 : i ∈ endsN prog L := List.mem_filter.mpr ⟨List.mem_range.mpr (by omega), by rw [hf]; rfl⟩
    have pw : (endsN prog L).Pairwise (· < ·) := List.pairwise_lt_range.filter _
    rw [h] at hi2 pw
    rcases List.mem_cons.mp hi2 with e1 | e1
    · omega
    · have := (List.pairwise_cons.mp pw).1 i e1
      omega
end
end SB

set_option Elab.async false
set_option linter.all false
set_option maxRecDepth 100000
set_option maxHeartbeats 4000000
namespace SB
open PySem PySem.Spec PyProof.Rows L2
abbrev N27 : List Str := ["_law_script", "_law_d", "_law_turn", "_law_program_here", "_law_memory", "_law_works", "_law_asks", "_law_at", "_law_number", "_law_asking", "_law_resting", "_law_beat", "_law_log", "_law_shown", "_law_some", "_law_fewer", "_law_hall", "_law_ends", "_law_cut", "_law_k", "_law_one"]
section
variable {P : Program} {w : World} {K : PySem.W.Frag} {mg : Str → Option Value} {base : Heap}
theorem s_asg7 {te : TE} {g : TG} {D : Ends} {σ : L2.St} {H : Hp} (h : te σ H fun x H1 => g x σ H1 D.nx) : tAsg te g D σ H := h
theorem ok_str {r : Row} {n m : Nat} (g1 : ∀ x, r ≠ .go x) (g2 : ∀ x y, r ≠ .iff x y) (h : r.ok n) : r.ok m := by
  cases r <;> first | exact absurd rfl (g1 _) | exact absurd rfl (g2 _ _) | exact h
theorem ins_mem {prog : List Row} {n : Nat} {r x : Row} (h : x ∈ prog.take n ++ [r] ++ prog.drop n) : x = r ∨ x ∈ prog := by
  rcases List.mem_append.mp h with h | h
  · rcases List.mem_append.mp h with h | h
    · exact .inr (List.mem_of_mem_take h)
    · exact .inl (by simpa using h)
  · exact .inr (List.mem_of_mem_drop h)
theorem ins_len {prog : List Row} {n : Nat} {r : Row} (h : n ≤ prog.length) : (prog.take n ++ [r] ++ prog.drop n).length = prog.length + 1 := by
  simp only [List.length_append, List.length_take, List.length_drop, List.length_cons, List.length_nil]
  omega
theorem ins_at {prog : List Row} {n : Nat} {r : Row} (h : n ≤ prog.length) : (prog.take n ++ [r] ++ prog.drop n)[n]? = some r := by
  rw [List.append_assoc, List.getElem?_append_right (by rw [List.length_take]; omega), List.length_take, Nat.min_eq_left h, Nat.sub_self]
  rfl
theorem ins_ne {prog : List Row} {n i : Nat} {r r' : Row} (h : n ≤ prog.length) (hi : i ≠ n) : (prog.take n ++ [r] ++ prog.drop n)[i]? = (prog.take n ++ [r'] ++ prog.drop n)[i]? := by
  rw [List.append_assoc, List.append_assoc]
  by_cases h1 : i < n
  · rw [List.getElem?_append_left (by rw [List.length_take]; omega), List.getElem?_append_left (by rw [List.length_take]; omega)]
  · have e : ∀ r : Row, (prog.take n ++ ([r] ++ prog.drop n))[i]? = ([r] ++ prog.drop n)[i - n]? := fun r => by
      rw [List.getElem?_append_right (by rw [List.length_take]; omega), List.length_take, Nat.min_eq_left h]
    rw [e, e]
    obtain ⟨k, hk⟩ : ∃ k, i - n = k + 1 := ⟨i - n - 1, by omega⟩
    rw [hk]
    rfl
theorem tms_at {s : HS} {L n : Nat} (h : n < L) : atI (tmsV s L) (n : Int) = some (oV (dnN s 300 (n : Int))) := by
  unfold atI ixN tmsV
  rw [if_pos (by omega), List.length_map, List.length_range, if_pos (by omega)]
  simp [h]
theorem ok_law (T : T w K mg) {f : Addr} {fd : FuncData} (F : FunD K "law" "law" (defArgs s_law) (defBody s_law) (defScope s_law) [] [] f fd) : FnOk P w K mg base CX0 12 f fd ["_law_script"] (spLaw K) := by
  have F_l_dice : FnR P w K mg base CX0 1 _ _ := ok_l_dice T
  have F_l_off : FnR P w K mg base CX0 1 _ _ := ok_l_off T
  have F_l_words : FnR P w K mg base CX0 2 _ _ := ok_l_words T
  have F_l_work : FnR P w K mg base CX0 2 _ _ := ok_l_work T
  have F_l_asked : FnR P w K mg base CX0 2 _ _ := ok_l_asked T
  have F_l_program : FnR P w K mg base CX0 3 _ _ := ok_l_program T
  have F_times : FnR P w K mg base CX0 11 _ _ := ok_times T
  have F_run : FnR P w K mg base CX0 9 _ _ := ok_run T
  have F_Hall_init : FnR P w K mg base CX0 7 _ _ := ok_Hall_init T
  have F_Hall_beat : FnR P w K mg base CX0 7 _ _ := ok_Hall_beat T
  have F_Hall_shown : FnR P w K mg base CX0 5 _ _ := ok_Hall_shown T
  refine okx F sc_law (fun vs H Q E h => ?_) (fun cdv A outer s H vs Q E hr h => ?_)
  · obtain ⟨_, _, rfl, _⟩ := h
    rfl
  · obtain ⟨a, ns, rfl, hS, h63, q⟩ := h
    have hu := hr.units
    refine ⟨_, (pss_cons (ps_set (i := 1) sc_law.nd rfl (Or.inr rfl) (pe_callR F_l_dice (hr.mono (by decide)) rfl T.g_l_dice T.k_l_dice (pa_cons (pv 0) (pa_cons pe_int pa_nil))))
  (pss_cons (ps_for PassesOwn.never rfl (pi_range1 rfl T.u_range (pa_cons pe_int pa_nil)) (pg_name (i := 2) sc_law.nd rfl (Or.inl rfl))
  (pss_cons (ps_par rfl sc_law.nd (i := 3) (j := 4) rfl rfl (by decide) rfl rfl (pa_cons (pe_slice sl_tupA (pe_callR F_l_program (hr.mono (by decide)) rfl T.g_l_program T.k_l_program (pa_cons (pv 1) (pa_cons pe_bl pa_nil))) po_none (po_some pe_int)) (pa_cons (pe_callR F_l_words (hr.mono (by decide)) rfl T.g_l_words T.k_l_words (pa_cons (pv 1) pa_nil)) pa_nil)) rfl)
  (pss_cons (ps_setLc (i := 5) (own := [("_law_k", 19)]) (g := gName 19) (tt := tYes) (te := tCallR (sp_l_work K) (tCons (tVar 1) (tCons (tC (.int 3)) tNil))) rfl sc_law.nd rfl rfl (sw_true rfl rfl rfl (by decide +kernel)) (pi_range1 rfl T.u_range (pa_cons pe_int pa_nil)) (blkOk_by (N := N27) (sc := defScope s_law) (by decide +kernel)) (fun _ _ _ _ _ => pg_name (i := 19) sc_law.nd rfl (Or.inl rfl)) (fun _ _ _ _ _ => pts_nil) (fun _ _ _ _ _ => pe_callR F_l_work (hr.mono (by decide)) rfl T.g_l_work T.k_l_work (pa_cons (pv 1) (pa_cons pe_int pa_nil))))
  (pss_cons (ps_set (i := 6) sc_law.nd rfl (Or.inl rfl) (pe_slice sl_list (pe_callR F_l_asked (hr.mono (by decide)) rfl T.g_l_asked T.k_l_asked (pa_cons (pv 1) (pa_cons pe_int pa_nil))) po_none (po_some pe_int)))
  (pss_cons (ps_par rfl sc_law.nd (i := 7) (j := 8) rfl rfl (by decide) rfl rfl (pa_cons (pe_callR F_l_off (hr.mono (by decide)) rfl T.g_l_off T.k_l_off (pa_cons (pv 1) (pa_cons (pe_op op_add (pe_callB call_len_seq rfl T.u_len PySem.boot_len (pa_cons (pv 3) pa_nil)) pe_int) pa_nil))) (pa_cons (pe_callR F_l_off (hr.mono (by decide)) rfl T.g_l_off T.k_l_off (pa_cons (pv 1) (pa_cons pe_int pa_nil))) pa_nil)) rfl)
  (pss_cons (ps_set (i := 9) sc_law.nd rfl (Or.inr rfl) (pe_op op_catA (pe_op op_catA (pe_slice sl_tupA (pv 3) po_none (po_some (pv 7))) (pe_tup (pa_cons (pe_tup (pa_cons pe_str (pa_cons (pv 8) pa_nil))) pa_nil))) (pe_slice sl_tupA (pv 3) (po_some (pv 7)) po_none)))
  (pss_cons (ps_set (i := 10) sc_law.nd rfl (Or.inl rfl) (pe_op op_catA (pe_op op_catA (pe_slice sl_tupA (pv 3) po_none (po_some (pv 7))) (pe_tup (pa_cons (pe_tup (pa_cons pe_str (pa_cons pe_int pa_nil))) pa_nil))) (pe_slice sl_tupA (pv 3) (po_some (pv 7)) po_none)))
  (pss_cons (ps_set (i := 11) sc_law.nd rfl (Or.inr rfl) (pe_ix ix_list (pe_callR F_times (hr.mono (by decide)) rfl T.g_times T.k_times (pa_cons (pv 9) (pa_cons (pv 5) (pa_cons (pv 6) pa_nil)))) (pv 7) (fun _ _ => rfl)))
  (pss_cons (ps_asg (pe_callR F_run (hr.mono (by decide)) rfl T.g_run T.k_run (pa_cons (pv 9) (pa_cons (pv 5) (pa_cons (pv 4) (pa_cons (pv 6) (pa_cons pe_int pa_nil)))))) (pg_tup rfl (pgs_cons (pg_name (i := 12) sc_law.nd rfl (Or.inl rfl)) (pgs_cons (pg_name (i := 13) sc_law.nd rfl (Or.inl rfl)) pgs_nil))))
  (pss_cons (ps_if (PW.pt (pw_and (pt_cmp (pc_notN (pv 11))) (pw_and1 (pt_cmpR op_lt (pv 11) pe_int (nomark _)))))
  (pss_cons (ps_set (i := 14) sc_law.nd rfl (Or.inl rfl) (pe_op op_cat (pe_lc (own := [("_law_one", 20)]) (g := gName 20) (tt := tTest (tOp (rI0 fun i j => .bl (decide (i ≤ j))) (tOp (rIxT K) (tVar 20) (tC (.int 0))) (tVar 11))) (te := tVar 20) rfl sc_law.nd (pi_list (pv 6)) (blkOk_by (N := N27) (sc := defScope s_law) (by decide +kernel)) (fun _ _ _ _ _ => pg_name (i := 20) sc_law.nd rfl (Or.inl rfl)) (fun _ _ _ _ _ => pts_one (pt_cmpR op_le (pe_ix ix_tup (pv 20) pe_int (fun _ _ => rfl)) (pv 11) (nomark _))) (fun _ _ _ _ _ => pv 20)) (pe_lst (pa_cons (pe_tup (pa_cons (pe_op op_add (pv 11) pe_int) (pa_cons (pv 8) pa_nil))) pa_nil))))
  (pss_cons (ps_set (i := 14) sc_law.nd rfl (Or.inl rfl) (pe_op op_cat (pv 14) (pe_lc (own := [("_law_one", 20)]) (g := gName 20) (tt := tTest (tOp (rI0 fun i j => .bl (decide (i > j))) (tOp (rIxT K) (tVar 20) (tC (.int 0))) (tVar 11))) (te := tVar 20) rfl sc_law.nd (pi_list (pv 6)) (blkOk_by (N := N27) (sc := defScope s_law) (by decide +kernel)) (fun _ _ _ _ _ => pg_name (i := 20) sc_law.nd rfl (Or.inl rfl)) (fun _ _ _ _ _ => pts_one (pt_cmpR op_gt (pe_ix ix_tup (pv 20) pe_int (fun _ _ => rfl)) (pv 11) (nomark _))) (fun _ _ _ _ _ => pv 20))))
  (pss_one (ps_if (pt_cmpR (op_neD hu) (pe_callR F_run (hr.mono (by decide)) rfl T.g_run T.k_run (pa_cons (pv 10) (pa_cons (pv 5) (pa_cons (pv 4) (pa_cons (pv 14) (pa_cons pe_int pa_nil)))))) (pe_tup (pa_cons (pv 12) (pa_cons (pv 13) pa_nil))) (nomark _))
  (pss_one (ps_ret pe_bl))
  pss_nil))))
  pss_nil)
  (pss_cons (ps_set (i := 15) sc_law.nd rfl (Or.inl rfl) (pe_callR F_l_off (hr.mono (by decide)) rfl T.g_l_off T.k_l_off (pa_cons (pv 1) (pa_cons pe_int pa_nil))))
  (pss_cons (ps_set (i := 16) sc_law.nd rfl (Or.inr rfl) (pe_mkR T.mk_Hall F_Hall_init (hr.mono (by decide)) rfl T.g_Hall (pa_cons (pv 9) (pa_cons (pv 5) (pa_cons (pv 4) (pa_cons (pv 6) pa_nil))))))
  (pss_cons (ps_if (pt_cmpR (op_neD hu) (pe_ix ix_tup (pe_callR F_run (hr.mono (by decide)) rfl T.g_run T.k_run (pa_cons (pv 9) (pa_cons (pv 5) (pa_cons (pv 4) (pa_cons (pv 6) (pa_cons (pv 15) pa_nil)))))) pe_int (fun _ _ => rfl)) (pe_slice sl_list (pv 12) po_none (po_some (pv 15))) (nomark _))
  (pss_one (ps_ret pe_bl))
  pss_nil)
  (pss_cons (ps_if (PW.pt (pw_or (pt_cmpR (op_neD hu) (pe_lc (own := [("_law_k", 19)]) (g := gName 19) (tt := tYes) (te := tMethR (He.ga K "Hall") "beat" (sp_Hall_beat K) E0 (tVar 16) tNil) rfl sc_law.nd (pi_range1 rfl T.u_range (pa_cons (pv 15) pa_nil)) (blkOk_by (N := N27) (sc := defScope s_law) (by decide +kernel)) (fun _ _ _ _ _ => pg_name (i := 19) sc_law.nd rfl (Or.inl rfl)) (fun _ _ _ _ _ => pts_nil) (fun _ _ _ _ _ => pe_mth0R (pv 16) T.cl_Hall T.m_Hall_beat F_Hall_beat (hr.mono (by decide)))) (pe_slice sl_list (pv 12) po_none (po_some (pv 15))) (nomark _)) (pw_or1 (pt_cmpR op_ne (pe_ix ix_tup (pe_mth0R (pv 16) T.cl_Hall T.m_Hall_shown F_Hall_shown (hr.mono (by decide))) pe_int (fun _ _ => rfl)) (pv 15) (nomark _)))))
  (pss_one (ps_ret pe_bl))
  pss_nil)
  (pss_cons (ps_setLc (i := 17) (own := [("_law_k", 19)]) (g := gName 19) (tt := tTest (tOp (rEqD K) (tOp (rIxT K) (tVar 9) (tVar 19)) (tTup (tCons (tC (.str "end")) tNil)))) (te := tVar 19) rfl sc_law.nd rfl rfl (sw_true rfl rfl rfl (by decide +kernel)) (pi_range1 rfl T.u_range (pa_cons (pe_callB call_len_seq rfl T.u_len PySem.boot_len (pa_cons (pv 9) pa_nil)) pa_nil)) (blkOk_by (N := N27) (sc := defScope s_law) (by decide +kernel)) (fun _ _ _ _ _ => pg_name (i := 19) sc_law.nd rfl (Or.inl rfl)) (fun _ _ _ _ _ => pts_one (pt_cmpR (op_eqD hu) (pe_ix ix_tup (pv 9) (pv 19) (fun _ _ => rfl)) (pe_tup (pa_cons pe_str pa_nil)) (nomark _))) (fun _ _ _ _ _ => pv 19))
  (pss_one (ps_if (pt_cmpR (op_neD hu) (pv 17) (pe_lst pa_nil) (nomark _))
  (pss_cons (ps_set (i := 18) sc_law.nd rfl (Or.inl rfl) (pe_callR F_run (hr.mono (by decide)) rfl T.g_run T.k_run (pa_cons (pe_slice sl_tupA (pv 9) po_none (po_some (pe_op op_add (pe_ix ix_list (pv 17) pe_int (fun _ _ => rfl)) pe_int))) (pa_cons (pv 5) (pa_cons (pv 4) (pa_cons (pv 6) (pa_cons pe_int pa_nil)))))))
  (pss_one (ps_if (pt_cmpR (op_neD hu) (pv 18) (pe_tup (pa_cons (pv 12) (pa_cons (pv 13) pa_nil))) (nomark _))
  (pss_one (ps_ret pe_bl))
  pss_nil)))
  pss_nil)))))))))))))))))
  (pss_one (ps_ret pe_bl)))), ?_⟩
    refine ⟨_, rfl, a, ns, 0, rfl, hS, by decide, by decide, h63, fun H1 d sl f1 D1 nd nsl s1 => ?_⟩ -- _law_dice(..)
    refine ⟨3, rfl, by decide, by decide, ?_⟩
    refine for_it walk_range (fun i σ H5 => ∃ f p cs v2 v3 v4 v5 v6 v7 v8 v9 v10 v11 v12 v13 v14 v15 v16 v17 v18 v19 v20, σ = [some (.ref a), some (.ref d), v2, v3, v4, v5, v6, v7, v8, v9, v10, v11, v12, v13, v14, v15, v16, v17, v18, v19, v20] ∧ DiceAt H5 d sl f p cs ∧ cs.length ≤ 63)
      ⟨f1, 0, ns, none, none, none, none, none, none, none, none, none, none, none, none, none, none, none, none, none, none, none, by kernel_rfl, D1, h63⟩ (fun _ _ _ _ _ => trivial) ?_ (fun σ H5 _ => q _)
    rintro i0 x σ G0 G0' hi ⟨f0, p0, cs0, v2, v3, v4, v5, v6, v7, v8, v9, v10, v11, v12, v13, v14, v15, v16, v17, v18, v19, v20, rfl, D0, c0⟩ ⟨rfl, rfl⟩
    refine ⟨_, rfl, d, sl, f0, p0, cs0, true, rfl, D0, c0, fun G1 f1 p1 cs1 pa0 rs0 prog0 D1 c1 k1 npa Pr1 pr0 pr40 prok0 st0 => ?_⟩ -- _law_program(..)
    refine ⟨_, rfl, ?_⟩
    refine sl_hi (n := 39) Pr1.tup (fun G2 pa hpa s2 => ?_) -- [:39]
    have D2 := D1.same s2
    obtain ⟨prog, eprog⟩ : ∃ prog, prog = prog0.take 39 := ⟨_, rfl⟩
    obtain ⟨rs, ers⟩ : ∃ rs, rs = rs0.take 39 := ⟨_, rfl⟩
    have Pr2 : ProgAt K G2 pa rs prog := ⟨by rw [ers, List.map_take]; exact hpa, by rw [ers, eprog, List.length_take, List.length_take, Pr1.len], fun j t r e1 e2 => by
      rw [ers, List.getElem?_take] at e1
      rw [eprog, List.getElem?_take] at e2
      split at e1
      · rename_i hj
        rw [if_pos hj] at e2
        exact Same.tup s2 (Pr1.at_ j t r e1 e2)
      · cases e1⟩
    have plen : prog.length = min 39 prog0.length := by rw [eprog, List.length_take]
    have p39 : prog.length ≤ 39 := by omega
    have p0 : 0 < prog.length := by omega
    have stp : StrP prog := fun r hr => st0 rfl r (List.mem_of_mem_take (by rw [← eprog]; exact hr))
    have prok : ∀ r ∈ prog, r.ok prog0.length := fun r hr => prok0 r (List.mem_of_mem_take (by rw [← eprog]; exact hr))
    clear ers eprog hpa Pr1
    refine ⟨_, rfl, d, sl, f1, p1, cs1, rfl, D2, by omega, fun G3 f3 p3 cs3 ml ws D3 c3 k3 nml hml w4 w32 wok => ?_⟩ -- _law_words(..)
    have mlD : ml ∉ [d, sl] := D2.ned nml
    have Pr3 := Pr2.keep k3 D2.inD
    refine ⟨_, _, rfl, ?_⟩ -- the two names
    /- works -/
    refine ⟨3, rfl, by decide, by decide, fun wl nwl => ?_⟩
    have wlD : wl ∉ [d, sl] := D3.ned nwl
    have dwl : d ≠ wl := fun z => wlD (by simp [z])
    have swl : sl ≠ wl := fun z => wlD (by simp [z])
    have mlwl : ml ≠ wl := ne_of_none hml nwl
    refine lc_it walk_range (fun i H2 => ∃ f p cs ts ks, DiceAt H2 d sl f p cs ∧ cs.length ≤ 63 ∧ TupsAt H2 wl ts (ks.map Wk.vs) ∧ ks.length = i ∧ (∀ k ∈ ks, WOk 3 k) ∧ Kept [d, sl, wl] G3 H2 ∧ ∀ b, H2 b = none → G3 b = none)
      ⟨f3, p3, cs3, [], [], (D3.same (Same.new (Same.refl _) nwl)), by omega, ⟨upd_same, rfl, fun j p vs e1 _ => by simp at e1⟩, rfl, (fun k hk => by cases hk), (Kept.refl _ _).put (by simp), fun b hb => upd_none hb⟩ (fun _ _ _ _ => trivial) ?_ ?_
    · rintro i x H2 H2' hi2 ⟨f, p, cs, ts, ks, D, c, W, lk, kok, kp, fr⟩ ⟨rfl, rfl⟩
      refine ⟨by kernel_rfl, yes ?_⟩
      refine ⟨.ref d, by kernel_rfl, ?_⟩
      refine ⟨d, sl, f, p, cs, 3, rfl, D, c, by decide, by decide, fun H4 f4 p4 cs4 t k D4 c4 k4 nt ht kk => ?_⟩ -- _law_work(..)
      have W4 := W.stay k4 wlD D.inD
      have twl : t ≠ wl := fun z => by rw [z, W.lst] at nt; cases nt
      refine ⟨_, W4.lst, ?_, f4, p4, cs4, ts ++ [t], ks ++ [k], ?_, by omega, ?_, by simp [lk], ?_, ?_, ?_⟩
      · rw [List.length_map, W.len, List.length_map, lk]
        exact Nat.lt_of_lt_of_le (show i < 3 from hi2) (by decide)
      · exact D4.keep ((Kept.refl [wl] _).put (by simp)) (by simpa using dwl) (by simpa using swl)
      · have em : ts.map V.ref ++ [.ref t] = (ts ++ [t]).map V.ref := by simp
        have e2 : (ks ++ [k]).map Wk.vs = ks.map Wk.vs ++ [k.vs] := by simp
        rw [em, e2]
        exact W4.push ht
      · intro k' hk'
        rcases List.mem_append.mp hk' with h | h
        · exact kok k' h
        · have e : k' = k := by simpa using h
          rw [e]
          exact kk
      · exact (kp.trans (k4.mono (by simp))).put (by simp)
      · intro b hb
        exact fr b (k4.fr (fun x hx => by
          have e : x = d ∨ x = sl := by simpa using hx
          rcases e with rfl | rfl
          · rw [D4.ob]; exact fun z => by cases z
          · rw [D4.ls]; exact fun z => by cases z) b (upd_none hb))
    rintro G4 ⟨f4, p4, cs4, ts, ks, D4, c4, W4, lk, kok, k4, fr4⟩
    have lk3 : ks.length = 3 := lk
    have in3 : ∀ b ∈ [d, sl, wl], ∃ u, upd G3 wl (.lst []) b = some u ∧ notTup u = true := fun b hb => by
      have e : b = d ∨ b = sl ∨ b = wl := by simpa using hb
      rcases e with rfl | rfl | rfl
      · exact ⟨_, by rw [upd_ne dwl]; exact D3.ob, rfl⟩
      · exact ⟨_, by rw [upd_ne swl]; exact D3.ls, rfl⟩
      · exact ⟨_, upd_same, rfl⟩
    have k4' : Kept [d, sl] G3 G4 := fun b o e n => k4 b o e (fun z => by
      have e' : b = d ∨ b = sl ∨ b = wl := by simpa using z
      rcases e' with h | h | h
      · exact n (by simp [h])
      · exact n (by simp [h])
      · rw [h, nwl] at e; cases e)
    have Pr4 := Pr3.keep k4' D3.inD
    have hml4 := k4' _ _ hml mlD
    clear k4 in3 fr4
    /- asks -/
    refine ⟨_, rfl, d, sl, f4, p4, cs4, 3, rfl, D4, c4, by decide, by decide, fun G5 f5 p5 cs5 al0 qs0 as0 D5 c5 k5 nal0 A5 aok0 => ?_⟩ -- _law_asked(..)
    refine ⟨_, rfl, al0, _, rfl, SqL.of A5.lst, fun al nal => ?_⟩ -- [:7]
    have ecut : cutV (qs0.map V.ref) none (some 7) = (qs0.take 7).map V.ref := by rw [show (7 : Int) = ((7 : Nat) : Int) from rfl, cut_take, List.map_take]
    rw [ecut]
    have sal : Same G5 (upd G5 al (.lst ((qs0.take 7).map V.ref))) := Same.new (Same.refl _) nal
    have hal : upd G5 al (.lst ((qs0.take 7).map V.ref)) al = some (.lst ((qs0.take 7).map V.ref)) := upd_same
    generalize upd G5 al (.lst ((qs0.take 7).map V.ref)) = G6 at sal hal
    obtain ⟨as, eas⟩ : ∃ as, as = as0.take 7 := ⟨_, rfl⟩
    obtain ⟨qs, eqs⟩ : ∃ qs, qs = qs0.take 7 := ⟨_, rfl⟩
    have A6 : TupsAt G6 al qs (as.map av) := ⟨by rw [eqs]; exact hal, by rw [eqs, eas, List.length_take, A5.len, List.length_map, List.length_map, List.length_take], fun j p vs e1 e2 => by
      rw [eqs, List.getElem?_take] at e1
      rw [eas, List.getElem?_map, List.getElem?_take] at e2
      split at e1
      · rename_i hj
        rw [if_pos hj, ← List.getElem?_map] at e2
        exact sal _ _ (A5.at_ j p vs e1 e2)
      · cases e1⟩
    have aok : AOk 3 as := by rw [eas]; exact ao_take aok0 7
    have l7 : as.length ≤ 7 := by rw [eas, List.length_take]; omega
    clear eas eqs ecut hal A5
    have D6 := D5.same sal
    have Pr6 := (Pr4.keep k5 D4.inD).same sal
    have hml6 := sal _ _ (k5 _ _ hml4 mlD)
    have W6 := (W4.stay k5 wlD D4.inD).keep sal
    have alD : al ∉ [d, sl] := D5.ned nal
    /- at, number -/
    refine ⟨_, rfl, _, rfl, _, _, rfl, .inr Pr6.tup, _, _, rfl, rfl, ?_⟩
    rw [List.length_map, Pr6.len]
    refine ⟨d, sl, f5, p5, cs5, (prog.length : Int) + 1, rfl, D6, by omega, by omega, by omega, fun G7 f7 p7 cs7 at_ D7 c7 k7 at0 at1 => ?_⟩
    refine ⟨_, rfl, d, sl, f7, p7, cs7, 3, rfl, D7, by omega, by decide, by decide, fun G8 f8 p8 cs8 num D8 c8 k8 num0 num1 => ?_⟩
    refine ⟨_, _, rfl, ?_⟩
    obtain ⟨n, rfl⟩ : ∃ n : Nat, at_ = (n : Int) := ⟨at_.toNat, by omega⟩
    have hn : n ≤ prog.length := by omega
    have Pr8 := (Pr6.keep k7 D6.inD).keep k8 D7.inD
    have hml8 := k8 _ _ (k7 _ _ hml6 mlD) mlD
    have W8 := (W6.stay k7 wlD D6.inD).stay k8 wlD D7.inD
    have A8 := (A6.stay k7 alD D6.inD).stay k8 alD D7.inD
    clear Pr6 Pr4 Pr3 Pr2 W6 W4 A6 D2 D3 D4 D5 D6 D7
    /- asking -/
    dsimp only
    refine seq_s (s_asg7 ?_)
    refine ins_row (n := n) (r := .ask num) (by rfl) (by rfl) Pr8 (by omega) hn (fun H1 Q1 s1 k => ?_) (fun G9 pA rA PrA s9 => ?_)
    · refine ⟨_, rfl, by show 2 ≤ sizeLine; decide, fun t nt => ?_⟩
      have st1 : Same H1 (upd H1 t (.tup [.str "ask", .int num])) := Same.new (Same.refl _) nt
      have ht1 : upd H1 t (.tup [.str "ask", .int num]) t = some (.tup [.str "ask", .int num]) := upd_same
      generalize upd H1 t (.tup [.str "ask", .int num]) = H2 at st1 ht1
      refine ⟨by show 1 ≤ sizeLine; decide, fun p np => ?_⟩
      have st2 : Same H2 (upd H2 p (.tup [.ref t])) := Same.new (Same.refl _) np
      exact k _ p t (st1.trans st2) upd_same (st2 _ _ ht1)
    /- resting -/
    dsimp only [gName]
    refine seq_s (s_asg7 ?_)
    refine ins_row (n := n) (r := .rest 1) (by rfl) (by rfl) (Pr8.same s9) (by omega) hn (fun H1 Q1 s1 k => ?_) (fun G10 pR rR PrR s10 => ?_)
    · refine ⟨by show 2 ≤ sizeLine; decide, fun t nt => ?_⟩
      have st1 : Same H1 (upd H1 t (.tup [.str "rest", .int 1])) := Same.new (Same.refl _) nt
      have ht1 : upd H1 t (.tup [.str "rest", .int 1]) t = some (.tup [.str "rest", .int 1]) := upd_same
      generalize upd H1 t (.tup [.str "rest", .int 1]) = H2 at st1 ht1
      refine ⟨by show 1 ≤ sizeLine; decide, fun p np => ?_⟩
      have st2 : Same H2 (upd H2 p (.tup [.ref t])) := Same.new (Same.refl _) np
      exact k _ p t (st1.trans st2) upd_same (st2 _ _ ht1)
    dsimp only [gName]
    have s810 := s9.trans s10
    have lA := ins_len (r := .ask num) hn
    have lR := ins_len (r := .rest 1) hn
    have aA := ins_at (r := .ask num) hn
    have aR := ins_at (r := .rest 1) hn
    have aO := fun i hi => ins_ne (r := .rest 1) (r' := .ask num) hn (i := i) hi
    have stA : StrP (prog.take n ++ [Row.ask num] ++ prog.drop n) := fun r hr => by
      rcases ins_mem hr with rfl | h
      · exact ⟨fun _ z => (by cases z), fun _ _ z => (by cases z)⟩
      · exact stp r h
    have okA : ∀ r ∈ prog.take n ++ [Row.ask num] ++ prog.drop n, r.ok (prog.take n ++ [Row.ask num] ++ prog.drop n).length := fun r hr => by
      rcases ins_mem hr with rfl | h
      · show rg 0 5 num
        exact ⟨num0, by omega⟩
      · exact ok_str (stp r h).1 (stp r h).2 (prok r h)
    have okR : ∀ r ∈ prog.take n ++ [Row.rest 1] ++ prog.drop n, r.ok (prog.take n ++ [Row.rest 1] ++ prog.drop n).length := fun r hr => by
      rcases ins_mem hr with rfl | h
      · show rg 1 9 1
        exact ⟨by decide, by decide⟩
      · exact ok_str (stp r h).1 (stp r h).2 (prok r h)
    generalize prog.take n ++ [Row.ask num] ++ prog.drop n = progA at PrA lA aA aO stA okA
    generalize prog.take n ++ [Row.rest 1] ++ prog.drop n = progR at PrR lR aR aO okR
    have kok' : ∀ k ∈ ks, WOk ks.length k := by rw [lk3]; exact kok
    have aok' : AOk ks.length as := by rw [lk3]; exact aok
    have W10 := W8.keep s810
    have A10 := A8.keep s810
    have PrA10 := PrA.same s10
    have hml10 := s810 _ _ hml8
    have D10 := D8.same s810
    have Gd : GoodA K G10 pA wl al rA ts qs progA ks as := ⟨PrA10, by omega, by omega, okA, W10.works, by omega, kok', A10.asks, aok'⟩
    refine ⟨_, rfl, _, rfl, _, rfl, ?_⟩
    refine ⟨pA, wl, al, rA, ts, qs, progA, ks, as, rfl, Gd, stA, fun G11 due ndue hdue s11 => ?_⟩ -- times(..)
    refine ⟨_, rfl, _, _, _, _, rfl, rfl, SqL.of hdue, tms_at (by omega), ?_⟩ -- [at]
    have edone := congrFun ((sim0 (prog := progA) (as := as) (ks := ks) (ws1 := w0s) (ws2 := ws)).dones stA 300) (n : Int)
    rw [← edone]
    /- run -/
    refine ⟨_, rfl, _, rfl, _, rfl, _, rfl, ?_⟩
    refine ⟨pA, wl, ml, al, rA, ts, qs, progA, ks, ws, as, 300, rfl, PrA10.same s11, by omega, by omega, okA, (W10.keep s11).works, by omega, kok', SqL.of (s11 _ _ hml10), w4, w32, wok, (A10.keep s11).asks, aok', ⟨by decide, by decide⟩, fun G12 rp l sq cc w' kk gg ps gs R12 s12 => ?_⟩ -- run(..)
    refine ⟨rp, _, rfl, SqT.of R12.tup, rfl, _, _, rfl, _, _, rfl, rfl, ?_⟩ -- log, shown
    have O := at0_ok (ws := ws) okA (by omega) kok' w4 aok'
    have Lg12 := R12.log
    have Sh12 : ShF G12 sq cc w' kk gg gs ((HS.at0 progA as ks ws).after 300) := ⟨R12.sh.tup, R12.sh.hc, R12.sh.hw, R12.sh.hk, R12.sh.hg⟩
    have D11 := D10.same s11
    have shD : ∀ x ∈ [cc, w', kk, gg], x ∉ [d, sl] := fun x hx => by
      simp only [List.mem_cons] at hx
      rcases hx with rfl | rfl | rfl | rfl | z
      · exact D11.ned R12.sh.nc
      · exact D11.ned R12.sh.nw
      · exact D11.ned R12.sh.nk
      · exact D11.ned R12.sh.ng
      · cases z
    have lD : l ∉ [d, sl] := D11.ned R12.nl
    have s812 := (s810.trans s11).trans s12
    have rall : ∀ (Hx : Hp), Same G12 Hx → ProgAt K Hx pA rA progA ∧ ProgAt K Hx pR rR progR ∧ TupsAt Hx wl ts (ks.map Wk.vs) ∧ TupsAt Hx al qs (as.map av) ∧ SqL K Hx ml (ws.map V.int) ∧ LogAt Hx l ps ((HS.at0 progA as ks ws).log 300) ∧ ShF Hx sq cc w' kk gg gs ((HS.at0 progA as ks ws).after 300) ∧ DiceAt Hx d sl f8 p8 cs8 := fun Hx sx =>
      ⟨((PrA10.same s11).same s12).same sx, ((PrR.same s11).same s12).same sx, (W8.keep s812).keep sx, (A8.keep s812).keep sx, SqL.of (sx _ _ (s812 _ _ hml8)), Lg12.same sx, Sh12.same sx, (D8.same s812).same sx⟩
    clear R12 Lg12 Sh12 Gd W10 A10 PrA10 D10 W8 A8 Pr8 PrA PrR D8
    /- asked from outside -/
    dsimp only
    refine seq_s ?_
    refine viaIf2 (fun σ' H' => ∃ u14, σ' = [some (.ref a), some (.ref d), some (.int (0 + (i0 : Nat))), some (.ref pa), some (.ref ml), some (.ref wl), some (.ref al), some (.int (n : Int)), some (.int num), some (.ref pA), some (.ref pR), some (oV (dnN (HS.at0 progA as ks ws) 300 (n : Int))), some (.ref l), some (.ref sq), u14, v15, v16, v17, v18, v19, v20] ∧ Same G12 H') (fun D nx => ?_) ?_
    · cases hbt : dnN (HS.at0 progA as ks ws) 300 (n : Int) with
      | none =>
        rw [hbt] at nx
        exact ⟨_, rfl, _, rfl, iteF (iteF (nx _ _ ⟨_, rfl, Same.refl _⟩))⟩
      | some b =>
        rw [hbt] at nx
        refine ⟨_, rfl, _, rfl, iteT ?_⟩
        refine ⟨_, rfl, _, _, rfl, rfl, _, rfl, ?_⟩
        by_cases hb2 : b < 200
        · rw [decide_eq_true hb2]
          refine iteT ?_
          obtain ⟨j, _, ej, _⟩ := dn_val (s := HS.at0 progA as ks ws) rfl 300 _ b hbt
          have b0 : 0 ≤ b := by omega
          obtain ⟨PrA12, PrR12, W12, A12, Ml12, Lg12, Sh12, D12⟩ := rall G12 (Same.refl _)
          refine seq_s (s_asg7 ?_)
          refine asks_lc (rel := fun i j => decide (i ≤ j)) (b := b) (by rfl) (by rfl) (by rfl) A12 (by omega) (fun G13 R1 us1 T13 s13 nR1 => ?_)
          refine ⟨_, rfl, _, _, rfl, rfl, _, rfl, by show 2 ≤ sizeLine; decide, fun t nt => ?_⟩
          have s14 : Same G13 (upd G13 t (.tup (av (b + 1, num)))) := Same.new (Same.refl _) nt
          have ht : upd G13 t (.tup (av (b + 1, num))) t = some (.tup (av (b + 1, num))) := upd_same
          have hgt : upd G13 t (.tup [.int (b + 1), .int num]) = upd G13 t (.tup (av (b + 1, num))) := rfl
          dsimp only
          rw [hgt]
          generalize upd G13 t (.tup (av (b + 1, num))) = G14 at s14 ht
          refine ⟨by show 1 ≤ sizeLine; decide, fun R2 nR2 => ?_⟩
          have s15 : Same G14 (upd G14 R2 (.lst [.ref t])) := Same.new (Same.refl _) nR2
          have hR2 : upd G14 R2 (.lst [.ref t]) R2 = some (.lst [.ref t]) := upd_same
          generalize upd G14 R2 (.lst [.ref t]) = G15 at s15 hR2
          have T15 := (T13.keep s14).keep s15
          have ul1 : us1.length ≤ 8 := by
            rw [T13.len, List.length_map]
            have h1 := List.length_filter_le (fun a : Int × Int => decide (a.1 ≤ b)) as
            omega
          refine ⟨R1, R2, _, _, rfl, rfl, T15.lst, hR2, by rw [List.length_map]; exact Nat.le_trans (show _ ≤ 9 by show us1.length + 1 ≤ 9; omega) (by decide), fun R3 nR3 => ?_⟩
          have s16 : Same G15 (upd G15 R3 (.lst (us1.map V.ref ++ [.ref t]))) := Same.new (Same.refl _) nR3
          have hR3 : upd G15 R3 (.lst (us1.map V.ref ++ [.ref t])) R3 = some (.lst (us1.map V.ref ++ [t].map V.ref)) := upd_same
          generalize upd G15 R3 (.lst (us1.map V.ref ++ [.ref t])) = G16 at s16 hR3
          have T16 : TupsAt G16 R3 (us1 ++ [t]) ((as.filter fun a => decide (a.1 ≤ b)).map av ++ [av (b + 1, num)]) := TupsAt.app (R2 := R2) (T15.keep s16) ⟨s16 _ _ hR2, rfl, fun j p vs e1 e2 => by
            cases j with
            | zero =>
              have a1 : t = p := by simpa using e1
              have a2 : av (b + 1, num) = vs := by simpa using e2
              subst a1 a2
              exact s16 _ _ (s15 _ _ ht)
            | succ j => simp at e1⟩ hR3
          have s1216 := ((s13.trans s14).trans s15).trans s16
          dsimp only [gName]
          refine seq_s (s_asg7 ?_)
          refine ⟨_, rfl, ?_⟩
          refine asks_lc (rel := fun i j => decide (i > j)) (b := b) (by rfl) (by rfl) (by rfl) (A12.keep s1216) (by omega) (fun G17 R4 us2 T17 s17 nR4 => ?_)
          have ul2 : us2.length ≤ 8 := by
            rw [T17.len, List.length_map]
            have h1 := List.length_filter_le (fun a : Int × Int => decide (a.1 > b)) as
            omega
          have T16' := T16.keep s17
          refine ⟨R3, R4, _, _, rfl, rfl, T16'.lst, T17.lst, by rw [List.length_map, List.length_map, List.length_append]; exact Nat.le_trans (show _ ≤ 20 by show us1.length + 1 + us2.length ≤ 20; omega) (by decide), fun R5 nR5 => ?_⟩
          have s18 : Same G17 (upd G17 R5 (.lst ((us1 ++ [t]).map V.ref ++ us2.map V.ref))) := Same.new (Same.refl _) nR5
          have hR5 : upd G17 R5 (.lst ((us1 ++ [t]).map V.ref ++ us2.map V.ref)) R5 = some (.lst ((us1 ++ [t]).map V.ref ++ us2.map V.ref)) := upd_same
          generalize upd G17 R5 (.lst ((us1 ++ [t]).map V.ref ++ us2.map V.ref)) = G18 at s18 hR5
          have T18 : TupsAt G18 R5 (us1 ++ [t] ++ us2) ((asksB as b num).map av) := by
            have := TupsAt.app (T16'.keep s18) (T17.keep s18) hR5
            have e : (asksB as b num).map av = (as.filter fun a => decide (a.1 ≤ b)).map av ++ [av (b + 1, num)] ++ (as.filter fun a => decide (a.1 > b)).map av := by
              unfold asksB
              simp
            rw [e]
            exact this
          have s1218 := (s1216.trans s17).trans s18
          obtain ⟨PrA18, PrR18, W18, A18, Ml18, Lg18, Sh18, D18⟩ := rall G18 s1218
          have aokB : AOk ks.length (asksB as b num) := by rw [lk3]; exact asksB_ok aok l7 b0 hb2 num0 num1
          dsimp only [gName]
          refine ⟨_, rfl, _, rfl, _, rfl, _, rfl, ?_⟩
          refine ⟨pR, wl, ml, R5, rR, ts, us1 ++ [t] ++ us2, progR, ks, ws, asksB as b num, 300, rfl, PrR18, by omega, by omega, okR, W18.works, by omega, kok', Ml18, w4, w32, wok, T18.asks, aokB, ⟨by decide, by decide⟩, fun G19 rp2 l2 sq2 cc2 w2' kk2 gg2 ps2 gs2 R19 s19 => ?_⟩ -- run(..)
          refine ⟨_, rfl, _, rfl, by show 2 ≤ sizeLine; decide, fun tp ntp => ?_⟩
          have s20 : Same G19 (upd G19 tp (.tup [.ref l, .ref sq])) := Same.new (Same.refl _) ntp
          have htp : upd G19 tp (.tup [.ref l, .ref sq]) tp = some (.tup [.ref l, .ref sq]) := upd_same
          generalize upd G19 tp (.tup [.ref l, .ref sq]) = G20 at s20 htp
          obtain ⟨e1, e2⟩ := asked27 O stA (by omega) aA aR aO hbt (by omega)
          have elog : (HS.at0 progR (asksB as b num) ks ws).log 300 = (HS.at0 progA as ks ws).log 300 := log_congr (fun i _ => e1 i)
          have esh : dSh ((HS.at0 progR (asksB as b num) ks ws).after 300) = dSh ((HS.at0 progA as ks ws).after 300) := dSh_eq e2.beats (by
            unfold rowD
            rw [e2.S, after_progS, after_progS]
            show (if _ = ((progR.length : Nat) : Int) then _ else _) = (if _ = ((progA.length : Nat) : Int) then _ else _)
            rw [show progR.length = progA.length by omega]) (by rw [e2.S]) (by rw [e2.S]) e2.ws e2.ks
          have dp1 : Dp K G20 (.ref rp2) (dRun ((HS.at0 progA as ks ws).log 300) ((HS.at0 progA as ks ws).after 300)) := by
            have h1 : Dp K G19 (.ref rp2) (dRun ((HS.at0 progR (asksB as b num) ks ws).log 300) ((HS.at0 progR (asksB as b num) ks ws).after 300)) := .tup (SqT.of R19.tup) (.cons R19.log.dpl (.cons R19.sh.dp .nil))
            unfold dRun at h1
            rw [elog, esh] at h1
            exact dp_same s20 h1
          have s1220 := (s1218.trans s19).trans s20
          obtain ⟨_, _, _, _, _, Lg20, Sh20, _⟩ := rall G20 s1220
          have shp := dRun_shaped ((HS.at0 progA as ks ws).after 300) (log_lay (HS.at0 progA as ks ws) 300)
          refine ⟨_, _, dp1, .tup (SqT.of htp) (.cons Lg20.dpl (.cons Sh20.dp .nil)), shp, shp, _, rfl, ?_⟩
          have eself := eqv_self shp
          unfold dRun at eself ⊢
          rw [eself]
          exact iteF (nx _ _ ⟨_, rfl, s1220⟩)
        · rw [decide_eq_false hb2]
          exact iteF (nx _ _ ⟨_, rfl, Same.refl _⟩)
    rintro σ' G20 ⟨u14, rfl, s20⟩
    obtain ⟨PrA20, _, W20, A20, Ml20, Lg20, Sh20, D20⟩ := rall G20 s20
    have hml20 : G20 ml = some (.lst (ws.map V.int)) := s20 _ _ (s812 _ _ hml8)
    refine ⟨_, rfl, d, sl, f8, p8, cs8, 301, rfl, D20, by omega, by decide, by decide, fun G21 f9 p9 cs9 fw D21 c9 k21 fw0 fw1 => ?_⟩ -- fewer
    obtain ⟨m, rfl⟩ : ∃ m : Nat, fw = (m : Int) := ⟨fw.toNat, by omega⟩
    have m300 : m ≤ 300 := by omega
    have rall2 : ∀ (Hx : Hp), Same G21 Hx → ProgAt K Hx pA rA progA ∧ TupsAt Hx wl ts (ks.map Wk.vs) ∧ TupsAt Hx al qs (as.map av) ∧ SqL K Hx ml (ws.map V.int) ∧ LogAt Hx l ps ((HS.at0 progA as ks ws).log 300) ∧ ShF Hx sq cc w' kk gg gs ((HS.at0 progA as ks ws).after 300) ∧ DiceAt Hx d sl f9 p9 cs9 := fun Hx sx =>
      ⟨(PrA20.keep k21 D20.inD).same sx, (W20.stay k21 wlD D20.inD).keep sx, (A20.stay k21 alD D20.inD).keep sx, SqL.of (sx _ _ (k21 _ _ hml20 mlD)), (Lg20.keep (Tk.of k21 D20.inD) (k21 _ _ Lg20.lst lD)).same sx, (Sh20.keep k21 shD D20.inD).same sx, D21.same sx⟩
    clear rall PrA20 W20 A20 Ml20 Lg20 Sh20 D20
    generalize hs0 : HS.at0 progA as ks ws = sA at O rall2
    /- Hall(..) -/
    refine ⟨_, rfl, _, rfl, _, rfl, _, rfl, ?_⟩
    intro h dh nh ndh neh
    have sH : Same G21 (upd (upd G21 dh (.own h)) h (.ins (cHall K) dh [])) := fun b o e => by
      rw [upd_ne (ne_of_none e nh), upd_ne (ne_of_none e ndh)]
      exact e
    obtain ⟨PrH, WH, AH, MlH, _, _, _⟩ := rall2 _ sH
    refine ⟨h, dh, pA, wl, ml, al, rA, ts, qs, progA, ks, ws, as, rfl, upd_same, PrH, by omega, by omega, okA, WH.works, by omega, kok', MlH, w4, w32, wok, AH.asks, aok', fun G22 B hB L22 nB nalB k22 => ⟨rfl, ?_⟩⟩ -- Hall(..)
    rw [hs0] at L22
    have s22 : Same G21 G22 := fun b o e => k22 b o (sH b o e) (by simpa using ne_of_none e nh)
    have nB0 : ∀ b ∈ B.foot, G21 b = none := fun b hb => by
      by_cases e : b = h
      · rw [e]; exact nh
      · exact Same.free sH (nB b hb e)
    subst hB
    clear PrH WH AH MlH
    have ebt : sA.beats = 0 := by rw [← hs0]; rfl
    /- fewer beats -/
    obtain ⟨Pr22, W22, A22, Ml22, Lg22, _, _⟩ := rall2 G22 s22
    refine ⟨_, rfl, _, rfl, _, rfl, _, rfl, _, rfl, ?_⟩
    refine ⟨pA, wl, ml, al, rA, ts, qs, progA, ks, ws, as, (m : Int), rfl, Pr22, by omega, by omega, okA, W22.works, by omega, kok', Ml22, w4, w32, wok, A22.asks, aok', ⟨by omega, by omega⟩, fun G23 rp3 l3 sq3 cc3 w3' kk3 gg3 ps3 gs3 R23 s23 => ?_⟩ -- run(..)
    rw [hs0] at R23
    refine ⟨_, _, _, _, rfl, rfl, SqT.of R23.tup, rfl, ?_⟩ -- [0]
    have Lg23 := Lg22.same s23
    refine ⟨_, rfl, _, rfl, _, rfl, l, _, rfl, SqL.of Lg23.lst, fun R1 nR1 => ?_⟩ -- log[:fewer]
    have ecut : cutV (ps.map V.ref) none (some (m : Int)) = (ps.map V.ref).take m := cut_take
    rw [ecut]
    have s24 : Same G23 (upd G23 R1 (.lst ((ps.map V.ref).take m))) := Same.new (Same.refl _) nR1
    have hR1 : upd G23 R1 (.lst ((ps.map V.ref).take m)) R1 = some (.lst ((ps.map V.ref).take m)) := upd_same
    generalize upd G23 R1 (.lst ((ps.map V.ref).take m)) = G24 at s24 hR1
    have shl : SeqAt.shaped (.list ((sA.log m).map dE)) = true := shaped_log (log_lay sA m)
    have c24 := (Lg23.same s24).cut hR1
    rw [log_take m300] at c24
    have r24 : LogAt G24 l3 ps3 (sA.log m) := R23.log.same s24
    refine ⟨_, _, r24.dpl, c24.dpl, shl, shl, _, rfl, ?_⟩
    rw [eqv_self shl]
    refine iteF ?_
    have s2224 := s23.trans s24
    have L24 := L22.same s2224
    clear R23 r24 c24 Pr22 W22 A22 Ml22 Lg22 Lg23
    have s2124 := s22.trans s2224
    /- beat by beat -/
    refine ⟨_, rfl, (m : Int), rfl, by omega, by omega, fun R2 nR2 => ?_⟩
    have nI := L24.fresh nR2
    have sR2 : Same G24 (upd G24 R2 (.lst [])) := Same.new (Same.refl _) nR2
    refine lc_it walk_range (fun i H2 => ∃ ps' A4 gh, LogAt H2 R2 ps' (sA.log i) ∧ A4.h = B.h ∧ HallAt K H2 A4 (sA.after i) gh ∧ NotIn R2 A4 ∧ (∀ b ∈ A4.foot, G21 b = none) ∧ Same G21 H2)
      ⟨[], B, _, ⟨upd_same, rfl, fun j p e h1 => by simp at h1⟩, rfl, L24.same sR2, nI, nB0, s2124.trans sR2⟩ (fun _ _ _ _ => trivial) ?_ ?_
    · rintro i x H4 H5 hi4 ⟨ps', A4, gh, Lg, eh, L4, nI4, nf4, s4⟩ ⟨rfl, rfl⟩
      refine ⟨by kernel_rfl, yes ?_⟩
      refine ⟨.ref B.h, by kernel_rfl, _, _, _, rfl, by rw [← eh]; exact L4.ob, hl_no_beat _, ?_⟩
      refine ⟨A4, _, _, by rw [eh], L4, O.after i, fun H6 A6 v le6 L6 st6 tb => ?_⟩
      obtain ⟨p, v1', v2', rfl, Ee, np⟩ := tb.ent
      have hR6 : H6 R2 = some (.lst (ps'.map V.ref)) := st6.kp _ _ Lg.lst nI4.f
      have nI6 : NotIn R2 A6 := nI4.step le6 st6 Lg.lst
      have kR : Kept [R2] H6 (upd H6 R2 (.lst (ps'.map V.ref ++ [V.ref p]))) := (Kept.refl _ _).put (by simp)
      have t67 : Tk H6 (upd H6 R2 (.lst (ps'.map V.ref ++ [V.ref p]))) := Tk.of kR (fun b hb => by
        have e : b = R2 := by simpa using hb
        rw [e]
        exact ⟨_, hR6, rfl⟩)
      have hlen : ps'.length = i := by rw [Lg.len, HS.log_len]
      have nR21 : G21 R2 = none := Same.free s2124 nR2
      refine ⟨_, hR6, by rw [List.length_map, hlen]; exact Nat.lt_of_lt_of_le hi4 (Nat.le_trans (show (m : Int).toNat ≤ 1000 by omega) (by decide)), ps' ++ [p], A6, _, ?_, le6.h.trans eh, L6.keepR hR6 nI6 kR, nI6, fun b hb => ?_, ?_⟩
      · rw [HS.log_succ]
        exact Lg.snoc ((Tk.of st6.kp L4.inF).trans t67) (Ee.keep t67) (by rw [upd_same]; simp)
      · rcases st6.gr b hb with z | z
        · exact nf4 b z
        · exact Same.free s4 z
      · intro b o e
        rw [upd_ne (ne_of_none e nR21)]
        exact st6.kp b o (s4 b o e) (fun z => by rw [nf4 b z] at e; cases e)
    rintro G25 ⟨ps', A5, gh, Lg25, eh, L25, nI25, nf25, s2125⟩
    have em : (m : Int).toNat = m := by omega
    rw [em] at Lg25 L25
    obtain ⟨_, _, _, _, Lgl, _, _⟩ := rall2 G25 s2125
    refine ⟨_, rfl, _, rfl, _, rfl, l, _, rfl, SqL.of Lgl.lst, fun R3 nR3 => ?_⟩ -- log[:fewer]
    rw [ecut]
    have s26 : Same G25 (upd G25 R3 (.lst ((ps.map V.ref).take m))) := Same.new (Same.refl _) nR3
    have hR3 : upd G25 R3 (.lst ((ps.map V.ref).take m)) R3 = some (.lst ((ps.map V.ref).take m)) := upd_same
    generalize upd G25 R3 (.lst ((ps.map V.ref).take m)) = G26 at s26 hR3
    have c26 := (Lgl.same s26).cut hR3
    rw [log_take m300] at c26
    refine ⟨_, _, (Lg25.same s26).dpl, c26.dpl, shl, shl, _, rfl, ?_⟩
    rw [eqv_self shl]
    refine iteF ?_
    have L26 := L25.same s26
    refine ⟨_, rfl, _, _, _, rfl, by rw [← eh]; exact L26.ob, hl_no_shown _, ?_⟩
    refine ⟨A5, _, _, by rw [eh], L26, O.after m, fun G27 p27 c27 w27 k27' g27 ps27 S27 s27 => ?_⟩ -- shown()
    refine ⟨_, _, _, _, rfl, rfl, SqT.of S27.tup, rfl, _, rfl, rfl, _, rfl, ?_⟩
    rw [after_bt ebt, decide_eq_true rfl]
    refine iteF ?_
    have s2127 := (s2125.trans s26).trans s27
    obtain ⟨Pr27, W27, A27, Ml27, Lg27, Sh27, D27⟩ := rall2 G27 s2127
    clear Lg25 L25 L26 S27 Lgl c26
    /- rows behind an end -/
    refine ⟨_, rfl, _, _, rfl, .inr Pr27.tup, ?_⟩
    rw [List.length_map, Pr27.len]
    refine ⟨(progA.length : Int), rfl, by omega, by omega, fun R4 nR4 => ?_⟩
    refine lc_it walk_range (fun i H2 => H2 R4 = some (.lst (((endsN progA i).map fun (k : Nat) => (k : Int)).map V.int)) ∧ Same G27 H2) ⟨upd_same, Same.new (Same.refl _) nR4⟩ (fun _ _ _ _ => trivial) ?_ ?_
    · rintro i x H2 H2' hi4 ⟨hR, s2⟩ ⟨rfl, rfl⟩
      have hi5 : i < progA.length := by simpa using hi4
      obtain ⟨r, hr'⟩ : ∃ r, progA[i]? = some r := ⟨_, List.getElem?_eq_getElem hi5⟩
      obtain ⟨t, e1, hrt⟩ := Pr27.get hr'
      have e0 : (0 : Int) + (i : Nat) = (i : Int) := by omega
      have hend : (endsN progA (i + 1)) = endsN progA i ++ (if r.isF = true then [i] else []) := by
        rw [endsN_succ, hr']
      have hle : (endsN progA i).length ≤ 40 := by
        unfold endsN
        refine Nat.le_trans (List.length_filter_le _ _) ?_
        rw [List.length_range]
        omega
      refine ⟨by kernel_rfl, ?_⟩
      refine ⟨.ref pA, by kernel_rfl, .int (0 + (i : Nat)), by kernel_rfl, _, _, _, _, rfl, rfl, (Pr27.same s2).tup, at_rf (by omega) (by rw [e0]; simpa using e1), ?_⟩
      refine ⟨by show 1 ≤ sizeLine; decide, fun t2 n2 => ?_⟩
      have s3 : Same H2' (upd H2' t2 (.tup [.str "end"])) := Same.new (Same.refl _) n2
      have ht2 : upd H2' t2 (.tup [.str "end"]) t2 = some (.tup [.str "end"]) := upd_same
      generalize upd H2' t2 (.tup [.str "end"]) = H3 at s3 ht2
      refine ⟨dRow r, .tuple [.str "end"], dRow_dp (Same.tup (s2.trans s3) hrt), .tup (SqT.of ht2) (.cons (.str _) .nil), dRow_sh r, by decide +kernel, _, rfl, ?_⟩
      rw [dRow_end]
      cases hF : r.isF with
      | true =>
        refine iteT ⟨.int (0 + (i : Nat)), by kernel_rfl, _, s3 _ _ hR, ?_, ?_, Same.new (s2.trans s3) nR4⟩
        · rw [List.length_map, List.length_map]
          exact Nat.lt_of_le_of_lt hle (by decide)
        · rw [upd_same, hend, hF, e0]
          simp
      | false =>
        refine iteF ⟨?_, s2.trans s3⟩
        rw [hend, hF]
        simp only [Bool.false_eq_true, if_false, List.append_nil]
        exact s3 _ _ hR
    rintro G28 ⟨hR4, s28⟩
    rw [show (progA.length : Int).toNat = progA.length by omega] at hR4
    refine ⟨_, rfl, by show 0 ≤ sizeLine; decide, fun e5 ne5 => ?_⟩
    have s29 : Same G28 (upd G28 e5 (.lst [])) := Same.new (Same.refl _) ne5
    have he5 : upd G28 e5 (.lst []) e5 = some (.lst []) := upd_same
    generalize upd G28 e5 (.lst []) = G29 at s29 he5
    have hR29 := s29 _ _ hR4
    have s2129 := (s2127.trans s28).trans s29
    obtain ⟨Pr29, W29, A29, Ml29, Lg29, Sh29, D29⟩ := rall2 G29 s2129
    refine ⟨.list (pyInts ((endsN progA progA.length).map fun (k : Nat) => (k : Int))), .list (pyInts []), .lst (SqL.of hR29) (dp_ints _), .lst (SqL.of (xs := []) he5) .nil, shaped_ints _, shaped_ints _, _, rfl, ?_⟩
    rw [eqv_nil]
    cases hE : endsN progA progA.length with
    | nil => exact iteF ⟨f9, p9, cs9, _, _, _, _, _, _, _, _, _, _, _, _, _, _, _, _, _, _, _, rfl, D29, by omega⟩
    | cons e rest =>
      rw [hE] at hR29
      obtain ⟨he1, he2, he3⟩ := ends_first hE
      refine iteT ?_
      have hR29' : G29 R4 = some (.lst (.int (e : Int) :: (rest.map fun (k : Nat) => (k : Int)).map V.int)) := hR29
      refine ⟨_, rfl, _, rfl, _, _, _, _, rfl, rfl, SqL.of hR29', at_0', _, _, rfl, rfl, _, rfl, ?_⟩
      have ee : ((e : Int) + 1) = ((e + 1 : Nat) : Int) := by omega
      dsimp only
      rw [ee]
      refine sl_hi (n := e + 1) Pr29.tup (fun G30 pC hpC s30 => ?_) -- asking[:ends[0] + 1]
      have PrC : ProgAt K G30 pC (rA.take (e + 1)) (progA.take (e + 1)) := ⟨by rw [List.map_take]; exact hpC, by rw [List.length_take, List.length_take, Pr29.len], fun j t r e1 e2 => by
        rw [List.getElem?_take] at e1 e2
        split at e1
        · rename_i hj
          rw [if_pos hj] at e2
          exact Same.tup s30 (Pr29.at_ j t r e1 e2)
        · cases e1⟩
      have lC : (progA.take (e + 1)).length = e + 1 := by rw [List.length_take]; omega
      have okC : ∀ r ∈ progA.take (e + 1), r.ok (progA.take (e + 1)).length := fun r hr => ok_str (stA r (List.mem_of_mem_take hr)).1 (stA r (List.mem_of_mem_take hr)).2 (okA r (List.mem_of_mem_take hr))
      have s2130 := s2129.trans s30
      obtain ⟨_, W30, A30, Ml30, _, _, _⟩ := rall2 G30 s2130
      refine ⟨_, rfl, _, rfl, _, rfl, ?_⟩
      refine ⟨pC, wl, ml, al, rA.take (e + 1), ts, qs, progA.take (e + 1), ks, ws, as, 300, rfl, PrC, by omega, by omega, okC, W30.works, by omega, kok', Ml30, w4, w32, wok, A30.asks, aok', ⟨by decide, by decide⟩, fun G31 rp4 l4 sq4 cc4 w4' kk4 gg4 ps4 gs4 R31 s31 => ?_⟩ -- run(..)
      refine ⟨_, rfl, _, rfl, _, rfl, by show 2 ≤ sizeLine; decide, fun tp ntp => ?_⟩
      have s32 : Same G31 (upd G31 tp (.tup [.ref l, .ref sq])) := Same.new (Same.refl _) ntp
      have htp : upd G31 tp (.tup [.ref l, .ref sq]) tp = some (.tup [.ref l, .ref sq]) := upd_same
      generalize upd G31 tp (.tup [.ref l, .ref sq]) = G32 at s32 htp
      obtain ⟨C, hC⟩ := cut27 (as := as) (ks := ks) (ws := ws) stA he2 he3 300
      have elog : (HS.at0 (progA.take (e + 1)) as ks ws).log 300 = sA.log 300 := by
        rw [← hs0]
        exact log_congr hC
      have pA3 : ((HS.at0 progA as ks ws).after 300).prog = progA := after_progS _ 300
      have pC3 : ((HS.at0 (progA.take (e + 1)) as ks ws).after 300).prog = progA.take (e + 1) := after_progS _ 300
      have esh : dSh ((HS.at0 (progA.take (e + 1)) as ks ws).after 300) = dSh (sA.after 300) := by
        rw [← hs0]
        refine dSh_eq C.beats ?_ C.cells C.marks C.ws C.ks
        unfold rowD
        rw [pA3, pC3, lC]
        have hrow := C.row
        rw [pA3] at hrow
        rcases hrow with ⟨h0, h1, h2⟩ | ⟨h1, h2⟩
        · rw [h2, if_neg (by omega), if_neg (by omega)]
        · rw [h1, h2, if_pos rfl, if_pos rfl]
      have dp1 : Dp K G32 (.ref rp4) (dRun (sA.log 300) (sA.after 300)) := by
        have h1 : Dp K G31 (.ref rp4) (dRun ((HS.at0 (progA.take (e + 1)) as ks ws).log 300) ((HS.at0 (progA.take (e + 1)) as ks ws).after 300)) := .tup (SqT.of R31.tup) (.cons R31.log.dpl (.cons R31.sh.dp .nil))
        unfold dRun at h1
        rw [elog, esh] at h1
        exact dp_same s32 h1
      have s2132 := (s2130.trans s31).trans s32
      obtain ⟨_, _, _, _, Lg32, Sh32, D32⟩ := rall2 G32 s2132
      have shp := dRun_shaped (sA.after 300) (log_lay sA 300)
      refine ⟨_, _, dp1, .tup (SqT.of htp) (.cons Lg32.dpl (.cons Sh32.dp .nil)), shp, shp, _, rfl, ?_⟩
      have eself := eqv_self shp
      unfold dRun at eself ⊢
      rw [eself]
      exact iteF ⟨f9, p9, cs9, _, _, _, _, _, _, _, _, _, _, _, _, _, _, _, _, _, _, _, rfl, D32, by omega⟩
end
end SB

set_option Elab.async false
set_option linter.all false
set_option maxRecDepth 100000
set_option maxHeartbeats 2000000
set_option maxHeartbeats 0
namespace SB
open PySem PySem.Spec PyProof.Rows L2
def d__wall : He.DefD := ⟨("_wall", none), "_wall", "_wall", defArgs s__wall, defBody s__wall, defScope s__wall, [], []⟩
def d_is_number : He.DefD := ⟨("is_number", none), "is_number", "is_number", defArgs s_is_number, defBody s_is_number, defScope s_is_number, [], []⟩
def d_is_part : He.DefD := ⟨("is_part", none), "is_part", "is_part", defArgs s_is_part, defBody s_is_part, defScope s_is_part, [], []⟩
def d_is_one_of : He.DefD := ⟨("is_one_of", none), "is_one_of", "is_one_of", defArgs s_is_one_of, defBody s_is_one_of, defScope s_is_one_of, [], []⟩
def d_is_row : He.DefD := ⟨("is_row", none), "is_row", "is_row", defArgs s_is_row, defBody s_is_row, defScope s_is_row, [], []⟩
def d_is_work : He.DefD := ⟨("is_work", none), "is_work", "is_work", defArgs s_is_work, defBody s_is_work, defScope s_is_work, [], []⟩
def d_is_ask : He.DefD := ⟨("is_ask", none), "is_ask", "is_ask", defArgs s_is_ask, defBody s_is_ask, defScope s_is_ask, [], []⟩
def d_check_program : He.DefD := ⟨("check_program", none), "check_program", "check_program", defArgs s_check_program, defBody s_check_program, defScope s_check_program, [], []⟩
def d_check_works : He.DefD := ⟨("check_works", none), "check_works", "check_works", defArgs s_check_works, defBody s_check_works, defScope s_check_works, [], []⟩
def d_check_memory : He.DefD := ⟨("check_memory", none), "check_memory", "check_memory", defArgs s_check_memory, defBody s_check_memory, defScope s_check_memory, [], []⟩
def d_check_asks : He.DefD := ⟨("check_asks", none), "check_asks", "check_asks", defArgs s_check_asks, defBody s_check_asks, defScope s_check_asks, [], []⟩
def d_check_hall : He.DefD := ⟨("check_hall", none), "check_hall", "check_hall", defArgs s_check_hall, defBody s_check_hall, defScope s_check_hall, [], []⟩
def d_check_beats : He.DefD := ⟨("check_beats", none), "check_beats", "check_beats", defArgs s_check_beats, defBody s_check_beats, defScope s_check_beats, [], []⟩
def d_check_straight : He.DefD := ⟨("check_straight", none), "check_straight", "check_straight", defArgs s_check_straight, defBody s_check_straight, defScope s_check_straight, [], []⟩
def d_Going_init : He.DefD := ⟨("Going", some "__init__"), "__init__", "Going.__init__", defArgs s_Going_init, defBody s_Going_init, defScope s_Going_init, [], []⟩
def d_Work_init : He.DefD := ⟨("Work", some "__init__"), "__init__", "Work.__init__", defArgs s_Work_init, defBody s_Work_init, defScope s_Work_init, [], []⟩
def d_Work_held_off : He.DefD := ⟨("Work", some "held_off"), "held_off", "Work.held_off", defArgs s_Work_held_off, defBody s_Work_held_off, defScope s_Work_held_off, [], []⟩
def d_Work_may_take : He.DefD := ⟨("Work", some "may_take"), "may_take", "Work.may_take", defArgs s_Work_may_take, defBody s_Work_may_take, defScope s_Work_may_take, [], []⟩
def d_Work_move : He.DefD := ⟨("Work", some "move"), "move", "Work.move", defArgs s_Work_move, defBody s_Work_move, defScope s_Work_move, [], []⟩
def d_Work_fetch : He.DefD := ⟨("Work", some "fetch"), "fetch", "Work.fetch", defArgs s_Work_fetch, defBody s_Work_fetch, defScope s_Work_fetch, [], []⟩
def d_Work_lay : He.DefD := ⟨("Work", some "lay"), "lay", "Work.lay", defArgs s_Work_lay, defBody s_Work_lay, defScope s_Work_lay, [], []⟩
def d_Device_init : He.DefD := ⟨("Device", some "__init__"), "__init__", "Device.__init__", defArgs s_Device_init, defBody s_Device_init, defScope s_Device_init, [], []⟩
def d_Device_is_on : He.DefD := ⟨("Device", some "is_on"), "is_on", "Device.is_on", defArgs s_Device_is_on, defBody s_Device_is_on, defScope s_Device_is_on, [], []⟩
def d_Device_wake : He.DefD := ⟨("Device", some "wake"), "wake", "Device.wake", defArgs s_Device_wake, defBody s_Device_wake, defScope s_Device_wake, [], []⟩
def d_Device_start : He.DefD := ⟨("Device", some "start"), "start", "Device.start", defArgs s_Device_start, defBody s_Device_start, defScope s_Device_start, [], []⟩
def d_Device_move : He.DefD := ⟨("Device", some "move"), "move", "Device.move", defArgs s_Device_move, defBody s_Device_move, defScope s_Device_move, [], []⟩
def d_Device_taker : He.DefD := ⟨("Device", some "taker"), "taker", "Device.taker", defArgs s_Device_taker, defBody s_Device_taker, defScope s_Device_taker, [], []⟩
def d_Device_numbers_on : He.DefD := ⟨("Device", some "numbers_on"), "numbers_on", "Device.numbers_on", defArgs s_Device_numbers_on, defBody s_Device_numbers_on, defScope s_Device_numbers_on, [], []⟩
def d_Device_shown_on : He.DefD := ⟨("Device", some "shown_on"), "shown_on", "Device.shown_on", defArgs s_Device_shown_on, defBody s_Device_shown_on, defScope s_Device_shown_on, [], []⟩
def d_beats_of : He.DefD := ⟨("beats_of", none), "beats_of", "beats_of", defArgs s_beats_of, defBody s_beats_of, defScope s_beats_of, [], []⟩
def d_word_of : He.DefD := ⟨("word_of", none), "word_of", "word_of", defArgs s_word_of, defBody s_word_of, defScope s_word_of, [], []⟩
def d_Machine_init : He.DefD := ⟨("Machine", some "__init__"), "__init__", "Machine.__init__", defArgs s_Machine_init, defBody s_Machine_init, defScope s_Machine_init, [], []⟩
def d_Machine_ended : He.DefD := ⟨("Machine", some "ended"), "ended", "Machine.ended", defArgs s_Machine_ended, defBody s_Machine_ended, defScope s_Machine_ended, [], []⟩
def d_Machine_wanted : He.DefD := ⟨("Machine", some "wanted"), "wanted", "Machine.wanted", defArgs s_Machine_wanted, defBody s_Machine_wanted, defScope s_Machine_wanted, [], []⟩
def d_Machine_step : He.DefD := ⟨("Machine", some "step"), "step", "Machine.step", defArgs s_Machine_step, defBody s_Machine_step, defScope s_Machine_step, [], []⟩
def d_Machine_use_word : He.DefD := ⟨("Machine", some "use_word"), "use_word", "Machine.use_word", defArgs s_Machine_use_word, defBody s_Machine_use_word, defScope s_Machine_use_word, [], []⟩
def d_Machine_finish : He.DefD := ⟨("Machine", some "finish"), "finish", "Machine.finish", defArgs s_Machine_finish, defBody s_Machine_finish, defScope s_Machine_finish, [], []⟩
def d_Machine_reckoned : He.DefD := ⟨("Machine", some "reckoned"), "reckoned", "Machine.reckoned", defArgs s_Machine_reckoned, defBody s_Machine_reckoned, defScope s_Machine_reckoned, [], []⟩
def d_Floor_init : He.DefD := ⟨("Floor", some "__init__"), "__init__", "Floor.__init__", defArgs s_Floor_init, defBody s_Floor_init, defScope s_Floor_init, [], []⟩
def d_Floor_pass_beat : He.DefD := ⟨("Floor", some "pass_beat"), "pass_beat", "Floor.pass_beat", defArgs s_Floor_pass_beat, defBody s_Floor_pass_beat, defScope s_Floor_pass_beat, [], []⟩
def d_Floor_seen : He.DefD := ⟨("Floor", some "seen"), "seen", "Floor.seen", defArgs s_Floor_seen, defBody s_Floor_seen, defScope s_Floor_seen, [], []⟩
def d_Hall_init : He.DefD := ⟨("Hall", some "__init__"), "__init__", "Hall.__init__", defArgs s_Hall_init, defBody s_Hall_init, defScope s_Hall_init, [], []⟩
def d_Hall_beat : He.DefD := ⟨("Hall", some "beat"), "beat", "Hall.beat", defArgs s_Hall_beat, defBody s_Hall_beat, defScope s_Hall_beat, [], []⟩
def d_Hall_shown : He.DefD := ⟨("Hall", some "shown"), "shown", "Hall.shown", defArgs s_Hall_shown, defBody s_Hall_shown, defScope s_Hall_shown, [], []⟩
def d_run : He.DefD := ⟨("run", none), "run", "run", defArgs s_run, defBody s_run, defScope s_run, [], []⟩
def d_Watch_init : He.DefD := ⟨("Watch", some "__init__"), "__init__", "Watch.__init__", defArgs s_Watch_init, defBody s_Watch_init, defScope s_Watch_init, [], []⟩
def d_Watch_run : He.DefD := ⟨("Watch", some "run"), "run", "Watch.run", defArgs s_Watch_run, defBody s_Watch_run, defScope s_Watch_run, [], []⟩
def d_Watch_run_till : He.DefD := ⟨("Watch", some "run_till"), "run_till", "Watch.run_till", defArgs s_Watch_run_till, defBody s_Watch_run_till, defScope s_Watch_run_till, [], []⟩
def d_Watch_step : He.DefD := ⟨("Watch", some "step"), "step", "Watch.step", defArgs s_Watch_step, defBody s_Watch_step, defScope s_Watch_step, [], []⟩
def d_Watch_note_get : He.DefD := ⟨("Watch", some "note_get"), "note_get", "Watch.note_get", defArgs s_Watch_note_get, defBody s_Watch_note_get, defScope s_Watch_note_get, [], []⟩
def d_check_ahead : He.DefD := ⟨("check_ahead", none), "check_ahead", "check_ahead", defArgs s_check_ahead, defBody s_check_ahead, defScope s_check_ahead, [], []⟩
def d_watched : He.DefD := ⟨("watched", none), "watched", "watched", defArgs s_watched, defBody s_watched, defScope s_watched, [], []⟩
def d_row_times : He.DefD := ⟨("row_times", none), "row_times", "row_times", defArgs s_row_times, defBody s_row_times, defScope s_row_times, [], []⟩
def d_times : He.DefD := ⟨("times", none), "times", "times", defArgs s_times, defBody s_times, defScope s_times, [], []⟩
def d_l_dice : He.DefD := ⟨("_law_dice", none), "_law_dice", "_law_dice", defArgs s_l_dice, defBody s_l_dice, defScope s_l_dice, [], []⟩
def d_l_off : He.DefD := ⟨("_law_off", none), "_law_off", "_law_off", defArgs s_l_off, defBody s_l_off, defScope s_l_off, [], []⟩
def d_l_words : He.DefD := ⟨("_law_words", none), "_law_words", "_law_words", defArgs s_l_words, defBody s_l_words, defScope s_l_words, [], []⟩
def d_l_work : He.DefD := ⟨("_law_work", none), "_law_work", "_law_work", defArgs s_l_work, defBody s_l_work, defScope s_l_work, [], []⟩
def d_l_row : He.DefD := ⟨("_law_row", none), "_law_row", "_law_row", defArgs s_l_row, defBody s_l_row, defScope s_l_row, [], []⟩
def d_l_program : He.DefD := ⟨("_law_program", none), "_law_program", "_law_program", defArgs s_l_program, defBody s_l_program, defScope s_l_program, [], []⟩
def d_l_asked : He.DefD := ⟨("_law_asked", none), "_law_asked", "_law_asked", defArgs s_l_asked, defBody s_l_asked, defScope s_l_asked, [], []⟩
def d_law : He.DefD := ⟨("law", none), "law", "law", defArgs s_law, defBody s_law, defScope s_law, [], []⟩
def fn : List He.DefD := ([d__wall, d_is_number, d_is_part, d_is_one_of, d_is_row, d_is_work, d_is_ask, d_check_program, d_check_works, d_check_memory] : List He.DefD) ++ ([d_check_asks, d_check_hall, d_check_beats, d_check_straight, d_Going_init, d_Work_init, d_Work_held_off, d_Work_may_take, d_Work_move, d_Work_fetch] : List He.DefD) ++ ([d_Work_lay, d_Device_init, d_Device_is_on, d_Device_wake, d_Device_start, d_Device_move, d_Device_taker, d_Device_numbers_on, d_Device_shown_on, d_beats_of] : List He.DefD) ++ ([d_word_of, d_Machine_init, d_Machine_ended, d_Machine_wanted, d_Machine_step, d_Machine_use_word, d_Machine_finish, d_Machine_reckoned, d_Floor_init, d_Floor_pass_beat] : List He.DefD) ++ ([d_Floor_seen, d_Hall_init, d_Hall_beat, d_Hall_shown, d_run, d_Watch_init, d_Watch_run, d_Watch_run_till, d_Watch_step, d_Watch_note_get] : List He.DefD) ++ ([d_check_ahead, d_watched, d_row_times, d_times, d_l_dice, d_l_off, d_l_words, d_l_work, d_l_row, d_l_program] : List He.DefD) ++ ([d_l_asked, d_law] : List He.DefD)
def fa : List He.Fa := ([.glo "_wall", .glo "is_number", .glo "is_part", .glo "is_one_of", .glo "is_row", .glo "is_work", .glo "is_ask", .glo "check_program", .glo "check_works", .glo "check_memory"] : List He.Fa) ++ ([.glo "check_asks", .glo "check_hall", .glo "check_beats", .glo "check_straight", .glo "beats_of", .glo "word_of", .glo "run", .glo "check_ahead", .glo "watched", .glo "row_times"] : List He.Fa) ++ ([.glo "times", .glo "_law_dice", .glo "_law_off", .glo "_law_words", .glo "_law_work", .glo "_law_row", .glo "_law_program", .glo "_law_asked", .glo "law", .glo "Going"] : List He.Fa) ++ ([.cls "Going", .mkr "Going", .noat "Going" "number", .noat "Going" "hand", .noat "Going" "puts", .glo "Work", .cls "Work", .mkr "Work", .noat "Work" "begin", .noat "Work" "goal"] : List He.Fa) ++ ([.noat "Work" "many", .noat "Work" "block", .noat "Work" "greed", .noat "Work" "mark", .noat "Work" "follow", .noat "Work" "going", .meth "Work" "held_off", .meth "Work" "may_take", .meth "Work" "move", .meth "Work" "fetch"] : List He.Fa) ++ ([.meth "Work" "lay", .glo "Device", .cls "Device", .mkr "Device", .noat "Device" "works", .noat "Device" "took", .noat "Device" "begun", .meth "Device" "is_on", .meth "Device" "wake", .meth "Device" "start"] : List He.Fa) ++ ([.meth "Device" "move", .meth "Device" "taker", .meth "Device" "numbers_on", .meth "Device" "shown_on", .glo "Machine", .cls "Machine", .mkr "Machine", .noat "Machine" "program", .noat "Machine" "cells", .noat "Machine" "marks"] : List He.Fa) ++ ([.noat "Machine" "row", .noat "Machine" "spent", .meth "Machine" "ended", .meth "Machine" "wanted", .meth "Machine" "step", .meth "Machine" "use_word", .meth "Machine" "finish", .meth "Machine" "reckoned", .glo "Floor", .cls "Floor"] : List He.Fa) ++ ([.mkr "Floor", .noat "Floor" "machine", .noat "Floor" "device", .noat "Floor" "words", .noat "Floor" "asks", .noat "Floor" "beats", .meth "Floor" "pass_beat", .meth "Floor" "seen", .glo "Hall", .cls "Hall"] : List He.Fa) ++ ([.mkr "Hall", .noat "Hall" "floor", .meth "Hall" "beat", .meth "Hall" "shown", .glo "Watch", .cls "Watch", .mkr "Watch", .noat "Watch" "floor", .noat "Watch" "dones", .noat "Watch" "on_behind"] : List He.Fa) ++ ([.noat "Watch" "pairs", .noat "Watch" "first_get", .noat "Watch" "goings", .meth "Watch" "run", .meth "Watch" "run_till", .meth "Watch" "step", .meth "Watch" "note_get", .free "abs", .free "bool", .free "enumerate"] : List He.Fa) ++ ([.free "int", .free "isinstance", .free "len", .free "list", .free "max", .free "range", .free "sorted", .free "str", .free "tuple", .free "zip"] : List He.Fa) ++ ([.int "FEWEST_WORDS" 4, .int "MOST_WORDS" 32, .int "MOST_ROWS" 40, .int "MOST_WORKS" 6, .int "MOST_ASKS" 8, .int "MOST_BEATS" 300, .int "CELLS" 4, .int "MARKS" 3, .int "WORTHS" 1000, .glo "GREEDS"] : List He.Fa) ++ ([.glo "FORMS", .glo "BOUNDS"] : List He.Fa)
def tab_FORMS : He.Tab := (fun K => He.ga K "FORMS", ["set", "add", "less", "get", "put", "getx", "putx", "pair", "lay", "go", "if", "ask", "done", "mark", "clear", "rest", "end"])
def tab_BOUNDS : He.Tab := (fun K => He.ga K "BOUNDS", ["cell", "first", "word", "address", "work", "mark", "rest", "many", "block", "ask"])
def ts : List He.Tab := [tab_FORMS, tab_BOUNDS]
def exs : List (PySem.W.Frag → Bool) := ([(fun K => He.tupB K "GREEDS" [.str "all", .str "turn", .str "idle"]), (fun K => entB K "FORMS" "set" [.str "cell", .str "word"]), (fun K => entB K "FORMS" "add" [.str "cell", .str "cell"]), (fun K => entB K "FORMS" "less" [.str "cell", .str "cell"]), (fun K => entB K "FORMS" "get" [.str "cell", .str "address"]), (fun K => entB K "FORMS" "put" [.str "address", .str "cell"]), (fun K => entB K "FORMS" "getx" [.str "cell", .str "cell"]), (fun K => entB K "FORMS" "putx" [.str "cell", .str "cell"])] : List (PySem.W.Frag → Bool)) ++ ([(fun K => entB K "FORMS" "pair" [.str "first", .str "address"]), (fun K => entB K "FORMS" "lay" [.str "address", .str "first"]), (fun K => entB K "FORMS" "go" [.str "row"]), (fun K => entB K "FORMS" "if" [.str "cell", .str "row"]), (fun K => entB K "FORMS" "ask" [.str "work"]), (fun K => entB K "FORMS" "done" [.str "cell", .str "work"]), (fun K => entB K "FORMS" "mark" [.str "mark"]), (fun K => entB K "FORMS" "clear" [.str "mark"])] : List (PySem.W.Frag → Bool)) ++ ([(fun K => entB K "FORMS" "rest" [.str "rest"]), (fun K => entB K "FORMS" "end" []), (fun K => entB K "BOUNDS" "cell" [.int 0, .int 3]), (fun K => entB K "BOUNDS" "first" [.int 0, .int 2]), (fun K => entB K "BOUNDS" "word" [.int 0, .int 999]), (fun K => entB K "BOUNDS" "address" [.int 0, .int 31]), (fun K => entB K "BOUNDS" "work" [.int 0, .int 5]), (fun K => entB K "BOUNDS" "mark" [.int 0, .int 2])] : List (PySem.W.Frag → Bool)) ++ ([(fun K => entB K "BOUNDS" "rest" [.int 1, .int 9]), (fun K => entB K "BOUNDS" "many" [.int 1, .int 16]), (fun K => entB K "BOUNDS" "block" [.int 1, .int 4]), (fun K => entB K "BOUNDS" "ask" [.int 0, .int 200])] : List (PySem.W.Frag → Bool))
def ex (K : PySem.W.Frag) : Bool := exs.all fun b => b K
theorem exB_ok {K : PySem.W.Frag} (h : ex K = true) (i : Nat) {b : PySem.W.Frag → Bool} (e : exs[i]? = some b) : b K = true := List.all_eq_true.mp h b (List.mem_of_getElem? e)
abbrev R : PySem.W.OpenRow := PySem.W.OpenLaw.row PySem.Challenge.rw_stealbeats_k27_whole_asked_alike
abbrev hk : PySem.W.Hook := He.hookX 5 fa fn ts [] ex
def ob (s : PySem.W.SharedT) : He.AlX := He.obsX 5 fa fn ts [] ex (HandSHeadRun.getT s)
theorem ob_eq (s : PySem.W.SharedT) : ob s = hk.obs s.abs := He.obsX_eq (HandSHeadRun.getT_eq s)
def loose : List Str := (["_wall", "BeatError", "BadMemory", "BadBeats", "Crooked", "BadProgram", "BadWorks", "BadAsks", "FORMS", "BOUNDS", "GREEDS", "FEWEST_WORDS"] : List Str) ++ (["MOST_WORDS", "MOST_ROWS", "MOST_WORKS", "MOST_ASKS", "MOST_BEATS", "is_number", "is_part", "is_one_of", "is_row", "is_work", "is_ask", "check_program"] : List Str) ++ (["check_works", "check_memory", "check_asks", "check_hall", "check_beats", "check_straight", "Going", "Work", "Device", "CELLS", "MARKS", "WORTHS"] : List Str) ++ (["beats_of", "word_of", "Machine", "Floor", "Hall", "run", "Watch", "check_ahead", "watched", "row_times", "times", "_law_dice"] : List Str) ++ (["_law_off", "_law_words", "_law_work", "_law_row", "_law_program", "_law_asked"] : List Str)
theorem mkT {w : World} {K : PySem.W.Frag} {h : Heap} {mg : Str → Option Value} (X : K.In h) (G : h.Ns mainGlobals mg) (c : He.SaysX fa fn ts [] ex w h K) : T w K mg where
  g__wall := He.glo_ok X G (c.t.d.fact 0 rfl)
  g_is_number := He.glo_ok X G (c.t.d.fact 1 rfl)
  g_is_part := He.glo_ok X G (c.t.d.fact 2 rfl)
  g_is_one_of := He.glo_ok X G (c.t.d.fact 3 rfl)
  g_is_row := He.glo_ok X G (c.t.d.fact 4 rfl)
  g_is_work := He.glo_ok X G (c.t.d.fact 5 rfl)
  g_is_ask := He.glo_ok X G (c.t.d.fact 6 rfl)
  g_check_program := He.glo_ok X G (c.t.d.fact 7 rfl)
  g_check_works := He.glo_ok X G (c.t.d.fact 8 rfl)
  g_check_memory := He.glo_ok X G (c.t.d.fact 9 rfl)
  g_check_asks := He.glo_ok X G (c.t.d.fact 10 rfl)
  g_check_hall := He.glo_ok X G (c.t.d.fact 11 rfl)
  g_check_beats := He.glo_ok X G (c.t.d.fact 12 rfl)
  g_check_straight := He.glo_ok X G (c.t.d.fact 13 rfl)
  g_beats_of := He.glo_ok X G (c.t.d.fact 14 rfl)
  g_word_of := He.glo_ok X G (c.t.d.fact 15 rfl)
  g_run := He.glo_ok X G (c.t.d.fact 16 rfl)
  g_check_ahead := He.glo_ok X G (c.t.d.fact 17 rfl)
  g_watched := He.glo_ok X G (c.t.d.fact 18 rfl)
  g_row_times := He.glo_ok X G (c.t.d.fact 19 rfl)
  g_times := He.glo_ok X G (c.t.d.fact 20 rfl)
  g_l_dice := He.glo_ok X G (c.t.d.fact 21 rfl)
  g_l_off := He.glo_ok X G (c.t.d.fact 22 rfl)
  g_l_words := He.glo_ok X G (c.t.d.fact 23 rfl)
  g_l_work := He.glo_ok X G (c.t.d.fact 24 rfl)
  g_l_row := He.glo_ok X G (c.t.d.fact 25 rfl)
  g_l_program := He.glo_ok X G (c.t.d.fact 26 rfl)
  g_l_asked := He.glo_ok X G (c.t.d.fact 27 rfl)
  g_law := He.glo_ok X G (c.t.d.fact 28 rfl)
  g_Going := He.glo_ok X G (c.t.d.fact 29 rfl)
  cl_Going := He.cls_ok (c.t.d.fact 30 rfl)
  mk_Going := He.mkr_ok (c.t.d.fact 31 rfl)
  n_Going_number := He.noat_ok (c.t.d.fact 32 rfl)
  n_Going_hand := He.noat_ok (c.t.d.fact 33 rfl)
  n_Going_puts := He.noat_ok (c.t.d.fact 34 rfl)
  g_Work := He.glo_ok X G (c.t.d.fact 35 rfl)
  cl_Work := He.cls_ok (c.t.d.fact 36 rfl)
  mk_Work := He.mkr_ok (c.t.d.fact 37 rfl)
  n_Work_begin := He.noat_ok (c.t.d.fact 38 rfl)
  n_Work_goal := He.noat_ok (c.t.d.fact 39 rfl)
  n_Work_many := He.noat_ok (c.t.d.fact 40 rfl)
  n_Work_block := He.noat_ok (c.t.d.fact 41 rfl)
  n_Work_greed := He.noat_ok (c.t.d.fact 42 rfl)
  n_Work_mark := He.noat_ok (c.t.d.fact 43 rfl)
  n_Work_follow := He.noat_ok (c.t.d.fact 44 rfl)
  n_Work_going := He.noat_ok (c.t.d.fact 45 rfl)
  m_Work_held_off := He.meth_ok (c.t.d.fact 46 rfl)
  m_Work_may_take := He.meth_ok (c.t.d.fact 47 rfl)
  m_Work_move := He.meth_ok (c.t.d.fact 48 rfl)
  m_Work_fetch := He.meth_ok (c.t.d.fact 49 rfl)
  m_Work_lay := He.meth_ok (c.t.d.fact 50 rfl)
  g_Device := He.glo_ok X G (c.t.d.fact 51 rfl)
  cl_Device := He.cls_ok (c.t.d.fact 52 rfl)
  mk_Device := He.mkr_ok (c.t.d.fact 53 rfl)
  n_Device_works := He.noat_ok (c.t.d.fact 54 rfl)
  n_Device_took := He.noat_ok (c.t.d.fact 55 rfl)
  n_Device_begun := He.noat_ok (c.t.d.fact 56 rfl)
  m_Device_is_on := He.meth_ok (c.t.d.fact 57 rfl)
  m_Device_wake := He.meth_ok (c.t.d.fact 58 rfl)
  m_Device_start := He.meth_ok (c.t.d.fact 59 rfl)
  m_Device_move := He.meth_ok (c.t.d.fact 60 rfl)
  m_Device_taker := He.meth_ok (c.t.d.fact 61 rfl)
  m_Device_numbers_on := He.meth_ok (c.t.d.fact 62 rfl)
  m_Device_shown_on := He.meth_ok (c.t.d.fact 63 rfl)
  g_Machine := He.glo_ok X G (c.t.d.fact 64 rfl)
  cl_Machine := He.cls_ok (c.t.d.fact 65 rfl)
  mk_Machine := He.mkr_ok (c.t.d.fact 66 rfl)
  n_Machine_program := He.noat_ok (c.t.d.fact 67 rfl)
  n_Machine_cells := He.noat_ok (c.t.d.fact 68 rfl)
  n_Machine_marks := He.noat_ok (c.t.d.fact 69 rfl)
  n_Machine_row := He.noat_ok (c.t.d.fact 70 rfl)
  n_Machine_spent := He.noat_ok (c.t.d.fact 71 rfl)
  m_Machine_ended := He.meth_ok (c.t.d.fact 72 rfl)
  m_Machine_wanted := He.meth_ok (c.t.d.fact 73 rfl)
  m_Machine_step := He.meth_ok (c.t.d.fact 74 rfl)
  m_Machine_use_word := He.meth_ok (c.t.d.fact 75 rfl)
  m_Machine_finish := He.meth_ok (c.t.d.fact 76 rfl)
  m_Machine_reckoned := He.meth_ok (c.t.d.fact 77 rfl)
  g_Floor := He.glo_ok X G (c.t.d.fact 78 rfl)
  cl_Floor := He.cls_ok (c.t.d.fact 79 rfl)
  mk_Floor := He.mkr_ok (c.t.d.fact 80 rfl)
  n_Floor_machine := He.noat_ok (c.t.d.fact 81 rfl)
  n_Floor_device := He.noat_ok (c.t.d.fact 82 rfl)
  n_Floor_words := He.noat_ok (c.t.d.fact 83 rfl)
  n_Floor_asks := He.noat_ok (c.t.d.fact 84 rfl)
  n_Floor_beats := He.noat_ok (c.t.d.fact 85 rfl)
  m_Floor_pass_beat := He.meth_ok (c.t.d.fact 86 rfl)
  m_Floor_seen := He.meth_ok (c.t.d.fact 87 rfl)
  g_Hall := He.glo_ok X G (c.t.d.fact 88 rfl)
  cl_Hall := He.cls_ok (c.t.d.fact 89 rfl)
  mk_Hall := He.mkr_ok (c.t.d.fact 90 rfl)
  n_Hall_floor := He.noat_ok (c.t.d.fact 91 rfl)
  m_Hall_beat := He.meth_ok (c.t.d.fact 92 rfl)
  m_Hall_shown := He.meth_ok (c.t.d.fact 93 rfl)
  g_Watch := He.glo_ok X G (c.t.d.fact 94 rfl)
  cl_Watch := He.cls_ok (c.t.d.fact 95 rfl)
  mk_Watch := He.mkr_ok (c.t.d.fact 96 rfl)
  n_Watch_floor := He.noat_ok (c.t.d.fact 97 rfl)
  n_Watch_dones := He.noat_ok (c.t.d.fact 98 rfl)
  n_Watch_on_behind := He.noat_ok (c.t.d.fact 99 rfl)
  n_Watch_pairs := He.noat_ok (c.t.d.fact 100 rfl)
  n_Watch_first_get := He.noat_ok (c.t.d.fact 101 rfl)
  n_Watch_goings := He.noat_ok (c.t.d.fact 102 rfl)
  m_Watch_run := He.meth_ok (c.t.d.fact 103 rfl)
  m_Watch_run_till := He.meth_ok (c.t.d.fact 104 rfl)
  m_Watch_step := He.meth_ok (c.t.d.fact 105 rfl)
  m_Watch_note_get := He.meth_ok (c.t.d.fact 106 rfl)
  u_abs := He.free_ok X G (c.t.d.fact 107 rfl)
  u_bool := He.free_ok X G (c.t.d.fact 108 rfl)
  u_enumerate := He.free_ok X G (c.t.d.fact 109 rfl)
  u_int := He.free_ok X G (c.t.d.fact 110 rfl)
  u_isinstance := He.free_ok X G (c.t.d.fact 111 rfl)
  u_len := He.free_ok X G (c.t.d.fact 112 rfl)
  u_list := He.free_ok X G (c.t.d.fact 113 rfl)
  u_max := He.free_ok X G (c.t.d.fact 114 rfl)
  u_range := He.free_ok X G (c.t.d.fact 115 rfl)
  u_sorted := He.free_ok X G (c.t.d.fact 116 rfl)
  u_str := He.free_ok X G (c.t.d.fact 117 rfl)
  u_tuple := He.free_ok X G (c.t.d.fact 118 rfl)
  u_zip := He.free_ok X G (c.t.d.fact 119 rfl)
  i_FEWEST_WORDS := He.int_ok X G (c.t.d.fact 120 rfl)
  i_MOST_WORDS := He.int_ok X G (c.t.d.fact 121 rfl)
  i_MOST_ROWS := He.int_ok X G (c.t.d.fact 122 rfl)
  i_MOST_WORKS := He.int_ok X G (c.t.d.fact 123 rfl)
  i_MOST_ASKS := He.int_ok X G (c.t.d.fact 124 rfl)
  i_MOST_BEATS := He.int_ok X G (c.t.d.fact 125 rfl)
  i_CELLS := He.int_ok X G (c.t.d.fact 126 rfl)
  i_MARKS := He.int_ok X G (c.t.d.fact 127 rfl)
  i_WORTHS := He.int_ok X G (c.t.d.fact 128 rfl)
  g_GREEDS := He.glo_ok X G (c.t.d.fact 129 rfl)
  g_FORMS := He.glo_ok X G (c.t.d.fact 130 rfl)
  g_BOUNDS := He.glo_ok X G (c.t.d.fact 131 rfl)
  f__wall := c.t.d.def_ 0 (d := d__wall) rfl
  f_is_number := c.t.d.def_ 1 (d := d_is_number) rfl
  f_is_part := c.t.d.def_ 2 (d := d_is_part) rfl
  f_is_one_of := c.t.d.def_ 3 (d := d_is_one_of) rfl
  f_is_row := c.t.d.def_ 4 (d := d_is_row) rfl
  f_is_work := c.t.d.def_ 5 (d := d_is_work) rfl
  f_is_ask := c.t.d.def_ 6 (d := d_is_ask) rfl
  f_check_program := c.t.d.def_ 7 (d := d_check_program) rfl
  f_check_works := c.t.d.def_ 8 (d := d_check_works) rfl
  f_check_memory := c.t.d.def_ 9 (d := d_check_memory) rfl
  f_check_asks := c.t.d.def_ 10 (d := d_check_asks) rfl
  f_check_hall := c.t.d.def_ 11 (d := d_check_hall) rfl
  f_check_beats := c.t.d.def_ 12 (d := d_check_beats) rfl
  f_check_straight := c.t.d.def_ 13 (d := d_check_straight) rfl
  f_Going_init := c.t.d.def_ 14 (d := d_Going_init) rfl
  f_Work_init := c.t.d.def_ 15 (d := d_Work_init) rfl
  f_Work_held_off := c.t.d.def_ 16 (d := d_Work_held_off) rfl
  f_Work_may_take := c.t.d.def_ 17 (d := d_Work_may_take) rfl
  f_Work_move := c.t.d.def_ 18 (d := d_Work_move) rfl
  f_Work_fetch := c.t.d.def_ 19 (d := d_Work_fetch) rfl
  f_Work_lay := c.t.d.def_ 20 (d := d_Work_lay) rfl
  f_Device_init := c.t.d.def_ 21 (d := d_Device_init) rfl
  f_Device_is_on := c.t.d.def_ 22 (d := d_Device_is_on) rfl
  f_Device_wake := c.t.d.def_ 23 (d := d_Device_wake) rfl
  f_Device_start := c.t.d.def_ 24 (d := d_Device_start) rfl
  f_Device_move := c.t.d.def_ 25 (d := d_Device_move) rfl
  f_Device_taker := c.t.d.def_ 26 (d := d_Device_taker) rfl
  f_Device_numbers_on := c.t.d.def_ 27 (d := d_Device_numbers_on) rfl
  f_Device_shown_on := c.t.d.def_ 28 (d := d_Device_shown_on) rfl
  f_beats_of := c.t.d.def_ 29 (d := d_beats_of) rfl
  f_word_of := c.t.d.def_ 30 (d := d_word_of) rfl
  f_Machine_init := c.t.d.def_ 31 (d := d_Machine_init) rfl
  f_Machine_ended := c.t.d.def_ 32 (d := d_Machine_ended) rfl
  f_Machine_wanted := c.t.d.def_ 33 (d := d_Machine_wanted) rfl
  f_Machine_step := c.t.d.def_ 34 (d := d_Machine_step) rfl
  f_Machine_use_word := c.t.d.def_ 35 (d := d_Machine_use_word) rfl
  f_Machine_finish := c.t.d.def_ 36 (d := d_Machine_finish) rfl
  f_Machine_reckoned := c.t.d.def_ 37 (d := d_Machine_reckoned) rfl
  f_Floor_init := c.t.d.def_ 38 (d := d_Floor_init) rfl
  f_Floor_pass_beat := c.t.d.def_ 39 (d := d_Floor_pass_beat) rfl
  f_Floor_seen := c.t.d.def_ 40 (d := d_Floor_seen) rfl
  f_Hall_init := c.t.d.def_ 41 (d := d_Hall_init) rfl
  f_Hall_beat := c.t.d.def_ 42 (d := d_Hall_beat) rfl
  f_Hall_shown := c.t.d.def_ 43 (d := d_Hall_shown) rfl
  f_run := c.t.d.def_ 44 (d := d_run) rfl
  f_Watch_init := c.t.d.def_ 45 (d := d_Watch_init) rfl
  f_Watch_run := c.t.d.def_ 46 (d := d_Watch_run) rfl
  f_Watch_run_till := c.t.d.def_ 47 (d := d_Watch_run_till) rfl
  f_Watch_step := c.t.d.def_ 48 (d := d_Watch_step) rfl
  f_Watch_note_get := c.t.d.def_ 49 (d := d_Watch_note_get) rfl
  f_check_ahead := c.t.d.def_ 50 (d := d_check_ahead) rfl
  f_watched := c.t.d.def_ 51 (d := d_watched) rfl
  f_row_times := c.t.d.def_ 52 (d := d_row_times) rfl
  f_times := c.t.d.def_ 53 (d := d_times) rfl
  f_l_dice := c.t.d.def_ 54 (d := d_l_dice) rfl
  f_l_off := c.t.d.def_ 55 (d := d_l_off) rfl
  f_l_words := c.t.d.def_ 56 (d := d_l_words) rfl
  f_l_work := c.t.d.def_ 57 (d := d_l_work) rfl
  f_l_row := c.t.d.def_ 58 (d := d_l_row) rfl
  f_l_program := c.t.d.def_ 59 (d := d_l_program) rfl
  f_l_asked := c.t.d.def_ 60 (d := d_l_asked) rfl
  f_law := c.t.d.def_ 61 (d := d_law) rfl
  d_FORMS := c.t.tab 0 (t := tab_FORMS) rfl
  d_BOUNDS := c.t.tab 1 (t := tab_BOUNDS) rfl
  tt_GREEDS := fun H => He.tupB_ok (exB_ok c.more 0 rfl) H
  e_FORMS_set := entB_ok (exB_ok c.more 1 rfl)
  e_FORMS_add := entB_ok (exB_ok c.more 2 rfl)
  e_FORMS_less := entB_ok (exB_ok c.more 3 rfl)
  e_FORMS_get := entB_ok (exB_ok c.more 4 rfl)
  e_FORMS_put := entB_ok (exB_ok c.more 5 rfl)
  e_FORMS_getx := entB_ok (exB_ok c.more 6 rfl)
  e_FORMS_putx := entB_ok (exB_ok c.more 7 rfl)
  e_FORMS_pair := entB_ok (exB_ok c.more 8 rfl)
  e_FORMS_lay := entB_ok (exB_ok c.more 9 rfl)
  e_FORMS_go := entB_ok (exB_ok c.more 10 rfl)
  e_FORMS_if := entB_ok (exB_ok c.more 11 rfl)
  e_FORMS_ask := entB_ok (exB_ok c.more 12 rfl)
  e_FORMS_done := entB_ok (exB_ok c.more 13 rfl)
  e_FORMS_mark := entB_ok (exB_ok c.more 14 rfl)
  e_FORMS_clear := entB_ok (exB_ok c.more 15 rfl)
  e_FORMS_rest := entB_ok (exB_ok c.more 16 rfl)
  e_FORMS_end := entB_ok (exB_ok c.more 17 rfl)
  e_BOUNDS_cell := entB_ok (exB_ok c.more 18 rfl)
  e_BOUNDS_first := entB_ok (exB_ok c.more 19 rfl)
  e_BOUNDS_word := entB_ok (exB_ok c.more 20 rfl)
  e_BOUNDS_address := entB_ok (exB_ok c.more 21 rfl)
  e_BOUNDS_work := entB_ok (exB_ok c.more 22 rfl)
  e_BOUNDS_mark := entB_ok (exB_ok c.more 23 rfl)
  e_BOUNDS_rest := entB_ok (exB_ok c.more 24 rfl)
  e_BOUNDS_many := entB_ok (exB_ok c.more 25 rfl)
  e_BOUNDS_block := entB_ok (exB_ok c.more 26 rfl)
  e_BOUNDS_ask := entB_ok (exB_ok c.more 27 rfl)
  k__wall := (let ⟨_, F⟩ := c.t.d.def_ 0 (d := d__wall) rfl; F.kp)
  k_is_number := (let ⟨_, F⟩ := c.t.d.def_ 1 (d := d_is_number) rfl; F.kp)
  k_is_part := (let ⟨_, F⟩ := c.t.d.def_ 2 (d := d_is_part) rfl; F.kp)
  k_is_one_of := (let ⟨_, F⟩ := c.t.d.def_ 3 (d := d_is_one_of) rfl; F.kp)
  k_is_row := (let ⟨_, F⟩ := c.t.d.def_ 4 (d := d_is_row) rfl; F.kp)
  k_is_work := (let ⟨_, F⟩ := c.t.d.def_ 5 (d := d_is_work) rfl; F.kp)
  k_is_ask := (let ⟨_, F⟩ := c.t.d.def_ 6 (d := d_is_ask) rfl; F.kp)
  k_check_program := (let ⟨_, F⟩ := c.t.d.def_ 7 (d := d_check_program) rfl; F.kp)
  k_check_works := (let ⟨_, F⟩ := c.t.d.def_ 8 (d := d_check_works) rfl; F.kp)
  k_check_memory := (let ⟨_, F⟩ := c.t.d.def_ 9 (d := d_check_memory) rfl; F.kp)
  k_check_asks := (let ⟨_, F⟩ := c.t.d.def_ 10 (d := d_check_asks) rfl; F.kp)
  k_check_hall := (let ⟨_, F⟩ := c.t.d.def_ 11 (d := d_check_hall) rfl; F.kp)
  k_check_beats := (let ⟨_, F⟩ := c.t.d.def_ 12 (d := d_check_beats) rfl; F.kp)
  k_check_straight := (let ⟨_, F⟩ := c.t.d.def_ 13 (d := d_check_straight) rfl; F.kp)
  k_beats_of := (let ⟨_, F⟩ := c.t.d.def_ 29 (d := d_beats_of) rfl; F.kp)
  k_word_of := (let ⟨_, F⟩ := c.t.d.def_ 30 (d := d_word_of) rfl; F.kp)
  k_run := (let ⟨_, F⟩ := c.t.d.def_ 44 (d := d_run) rfl; F.kp)
  k_check_ahead := (let ⟨_, F⟩ := c.t.d.def_ 50 (d := d_check_ahead) rfl; F.kp)
  k_watched := (let ⟨_, F⟩ := c.t.d.def_ 51 (d := d_watched) rfl; F.kp)
  k_row_times := (let ⟨_, F⟩ := c.t.d.def_ 52 (d := d_row_times) rfl; F.kp)
  k_times := (let ⟨_, F⟩ := c.t.d.def_ 53 (d := d_times) rfl; F.kp)
  k_l_dice := (let ⟨_, F⟩ := c.t.d.def_ 54 (d := d_l_dice) rfl; F.kp)
  k_l_off := (let ⟨_, F⟩ := c.t.d.def_ 55 (d := d_l_off) rfl; F.kp)
  k_l_words := (let ⟨_, F⟩ := c.t.d.def_ 56 (d := d_l_words) rfl; F.kp)
  k_l_work := (let ⟨_, F⟩ := c.t.d.def_ 57 (d := d_l_work) rfl; F.kp)
  k_l_row := (let ⟨_, F⟩ := c.t.d.def_ 58 (d := d_l_row) rfl; F.kp)
  k_l_program := (let ⟨_, F⟩ := c.t.d.def_ 59 (d := d_l_program) rfl; F.kp)
  k_l_asked := (let ⟨_, F⟩ := c.t.d.def_ 60 (d := d_l_asked) rfl; F.kp)
  k_law := (let ⟨_, F⟩ := c.t.d.def_ 61 (d := d_law) rfl; F.kp)
theorem run_false (w : World) : HandSHeadRun.RunEq R (PySem.W.view R.prog [64]) hk ob 6000 loose (w.withFollow "special-get-raises" false) := by
  intro os
  kernel_rfl
theorem run_true (w : World) : HandSHeadRun.RunEq R (PySem.W.view R.prog [64]) hk ob 6000 loose (w.withFollow "special-get-raises" true) := by
  intro os
  kernel_rfl
theorem run (w : World) : HandSHeadRun.RunEq R (PySem.W.view R.prog [64]) hk ob 6000 loose w := PySem.W.byRow2 "special-get-raises" (P := fun w => HandSHeadRun.RunEq R (PySem.W.view R.prog [64]) hk ob 6000 loose w) run_false run_true w
end SB

set_option Elab.async false
set_option linter.all false
set_option maxRecDepth 100000
set_option maxHeartbeats 0
open PySem PySem.W PySem.Calls PyProof.Rows
theorem PySem.Challenge.cw_stealbeats_k27_whole_asked_alike_holds : PySem.Challenge.rw_stealbeats_k27_whole_asked_alike.Holds := by
  w_on; o_law
  refine HandSHeadRun.head_any (r := OpenLaw.row PySem.Challenge.rw_stealbeats_k27_whole_asked_alike) (q := view (OpenLaw.row PySem.Challenge.rw_stealbeats_k27_whole_asked_alike).prog [64]) (H := SB.hk) (ob := SB.ob) (M := 6000) (loose := SB.loose) (d := HandSHeadRun.topDef (OpenLaw.row PySem.Challenge.rw_stealbeats_k27_whole_asked_alike).prog 64) (kwd := []) SB.ob_eq
    (by kernel_rfl) (fun s => by kernel_rfl) SB.run (by kernel_rfl) (by kernel_rfl) (by kernel_rfl) (by rfl) (by first | assumption | decide +kernel) (by decide +kernel) ⟨rfl, rfl, rfl, rfl, rfl, by decide +kernel⟩ ?hw ?hc
  case hw => w_witness2
  case hc =>
    refine L2.walk_ofE (l := PySem.Challenge.rw_stealbeats_k27_whole_asked_alike) (n := 63) (k := 12) (x := "_law_script") (CX := L2.CX0) rfl (by decide) (by kernel_rfl) ⟨rfl, by decide, by decide⟩ ?F (fun _ _ _ _ z => z)
    intro w mg fa h Y G hmg0
    obtain ⟨K, KX, c⟩ := Y
    have hmg : mg ("law" : PySem.Str) = some (.ref fa) := by
      have e : (HandSHeadRun.topDef (OpenLaw.row PySem.Challenge.rw_stealbeats_k27_whole_asked_alike).prog 64).name = ("law" : PySem.Str) := by kernel_rfl
      rw [← e]
      exact hmg0
    have T := SB.mkT KX G c
    have e := hmg.symm.trans T.g_law
    cases e
    obtain ⟨fd, F⟩ := T.f_law
    have b := L2.FunD.bindsA (ps := ["_law_script"]) F fun _ _ _ _ _ _ us hl => match us, hl with | [_], _ => rfl
    exact ⟨K, fd, SB.spLaw K, KX, fun s v => b s [v] rfl, fun H a ns hl _ hS => ⟨a, ns, rfl, hS, hl, fun _ => rfl⟩, fun base _ _ => SB.ok_law T F⟩

