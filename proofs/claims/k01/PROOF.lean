import PyProof.Rows.All
import Wide.All
import OpenK.AllK
import Wide.FinOn
import HandS.ForMost
import HandS.IsInst
import HandS.AnyAll
import HandS.Walk
import HandS.Flow
import HandS.Style
import HandS.TupAny
import HandS.Evl
import KE.GoesMore
import KE.GoesEnum
import KE.KRevSl
import HandS.EndOwn
import PySem.Challenge.RW_wornrigs_k01_rig_values
set_option Elab.async false
set_option linter.all false
set_option maxRecDepth 100000
set_option maxHeartbeats 2000000
namespace Wr
open PySem PySem.Spec PyProof.Rows L2

/-! ### heaps: all that was tracked stays, tables may grow -/
def NoT (o : HO) : Prop := ∀ ps, o ≠ .tbl ps
structure Le (H H' : Hp) : Prop where
  keep : ∀ b o, H b = some o → NoT o → H' b = some o
  tab : ∀ P, GxR.TabG H P → GxR.TabG H' P
  dom : ∀ b, H' b = none → H b = none
theorem Le.refl (H : Hp) : Le H H := ⟨fun _ _ h _ => h, fun _ h => h, fun _ h => h⟩
theorem Le.trans {H H1 H2 : Hp} (a : Le H H1) (b : Le H1 H2) : Le H H2 := ⟨fun c o h n => b.keep c o (a.keep c o h n) n, fun P h => b.tab P (a.tab P h), fun c h => a.dom c (b.dom c h)⟩
theorem Le.mut {H H1 : Hp} {p : Addr} {o : HO} (a : Le H H1) (h : H p = none) : Le H (upd H1 p o) := by
  refine ⟨fun b u e n => ?_, fun P ⟨ps, hp, ht⟩ => ?_, fun b e => ?_⟩
  · rw [upd_ne (ne_of_none e h)]
    exact a.keep b u e n
  · obtain ⟨ps', hp', ht'⟩ := a.tab P ⟨ps, hp, ht⟩
    exact ⟨ps', by rw [upd_ne (ne_of_none hp h)]; exact hp', ht'⟩
  · by_cases hb : b = p
    · rw [hb]
      exact h
    · rw [upd_ne hb] at e
      exact a.dom b e
theorem Le.new {H : Hp} {p : Addr} {o : HO} (h : H p = none) : Le H (upd H p o) := (Le.refl H).mut h
theorem Le.tabbed {P : Addr} {H H1 : Hp} (t : GxR.Tabbed P H H1) (h : GxR.TabG H P) : Le H H1 := by
  obtain ⟨t1, t2⟩ := t
  obtain ⟨ps, hp, ht⟩ := h
  refine ⟨fun b u e n => ?_, fun Q hQ => ?_, fun b e => ?_⟩
  · by_cases hb : b = P
    · rw [hb, hp] at e
      cases e
      exact absurd rfl (n ps)
    · rw [t2 b hb]
      exact e
  · by_cases hb : Q = P
    · rw [hb]
      exact t1
    · obtain ⟨qs, hq, hqt⟩ := hQ
      exact ⟨qs, by rw [t2 Q hb]; exact hq, hqt⟩
  · by_cases hb : b = P
    · obtain ⟨qs, hq, _⟩ := t1
      rw [hb, hq] at e
      cases e
    · rw [← t2 b hb]
      exact e
theorem not_lst {xs : List V} : NoT (.lst xs) := fun _ e => by cases e
theorem not_tup {xs : List V} : NoT (.tup xs) := fun _ e => by cases e
theorem not_dK {xs : List (Key × V)} : NoT (.dK xs) := fun _ e => by cases e
theorem not_frz {o : Obj} {u : HO} : NoT (.frz o u) := fun _ e => by cases e
section
variable {K : PySem.W.Frag} {H H' : Hp} {a : Addr} {xs : List V}
theorem Le.lst (e : Le H H') (h : H a = some (.lst xs)) : H' a = some (.lst xs) := e.keep _ _ h not_lst
theorem Le.tup (e : Le H H') (h : H a = some (.tup xs)) : H' a = some (.tup xs) := e.keep _ _ h not_tup
theorem Le.sql (e : Le H H') (h : SqL K H a xs) : SqL K H' a xs := by
  rcases h with (h | ⟨o, h⟩) | h
  · exact .inl (.inl (e.keep _ _ h not_lst))
  · exact .inl (.inr ⟨o, e.keep _ _ h not_frz⟩)
  · exact .inr h
theorem Le.sqt (e : Le H H') (h : SqT K H a xs) : SqT K H' a xs := by
  rcases h with (h | ⟨o, h⟩) | h
  · exact .inl (.inl (e.keep _ _ h not_tup))
  · exact .inl (.inr ⟨o, e.keep _ _ h not_frz⟩)
  · exact .inr h
theorem sql (h : H a = some (.lst xs)) : SqL K H a xs := .inl (.inl h)
theorem sqt (h : H a = some (.tup xs)) : SqT K H a xs := .inl (.inl h)
end
mutual
theorem Le.dp {K : PySem.W.Frag} {H H' : Hp} (e : Le H H') : ∀ {v : V} {d : PyData}, Dp K H v d → Dp K H' v d
  | _, _, .non => .non
  | _, _, .bl b => .bl b
  | _, _, .int i => .int i
  | _, _, .str x => .str x
  | _, _, .lst h r => .lst (e.sql h) (Le.dpAll e r)
  | _, _, .tup h r => .tup (e.sqt h) (Le.dpAll e r)
theorem Le.dpAll {K : PySem.W.Frag} {H H' : Hp} (e : Le H H') : ∀ {vs : List V} {ds : List PyData}, DpAll K H vs ds → DpAll K H' vs ds
  | _, _, .nil => .nil
  | _, _, .cons h r => .cons (Le.dp e h) (Le.dpAll e r)
end
/-! ### a def whose code object is known -/
structure FunC (K : PySem.W.Frag) (x qual : Str) (st : Stmt) (f : Addr) (fd : FuncData) (c : Addr) : Prop where
  ex : ∃ (oc : Value) (od : Option Addr) (kV doc pm : Value) (an : Option Addr) (ct : Value) (osl : Array (Option Value)),
    fd = PySem.W.fnOf x qual (defArgs st) (defBody st) (defScope st) .none kV doc pm an (.ref c) ct ∧ K.lookup f = some ⟨oc, od, .func fd, osl⟩ ∧ PySem.W.codeIn K (.ref c) qual = true
theorem FunC.ok {P : Program} {w : World} {K : PySem.W.Frag} {mg : Str → Option Value} {base : Heap} {x qual : Str} {st : Stmt} {f c : Addr} {fd : FuncData} {N ps : List Str} {k : Nat} {sp : Sp}
    (F : FunC K x qual st f fd c) (S : FnScope N ps (defScope st)) (len : ∀ vs H Q E, sp vs H Q E → vs.length = ps.length)
    (hbody : ∀ (A : Around) (outer : List Env) (s : Shared) (H : Hp) (vs : List V) (Q : VK) (E : XK), Room k (A.deeper (envOfC qual (defScope st) s.heap.objs.size f (.ref c))) → sp vs H Q E →
      ∃ t, PSs (cxOf CX0 P w K mg base N qual (defScope st) f (.ref c) A outer s H E).nox (defBody st) t ∧ t { nx := fun _ H' => Q .non H', rt := Q } (start N vs) H) :
    FnOk P w K mg base CX0 (k + 1) f fd ps sp := by
  obtain ⟨oc, od, kV, doc, pm, an, ct, osl, rfl, lk, hcd⟩ := F.ex
  exact fn_of lk hcd S len fun A outer s H vs Q E hr hsp => let ⟨t, h, q⟩ := hbody A outer s H vs Q E hr hsp; ⟨t, h.nox, q⟩
/-! ### small things -/
theorem sz {n : Nat} (h : n ≤ 100000) : n ≤ sizeLine := Nat.le_trans h (by decide)
theorem szlt {n : Nat} (h : n < 100000) : n < sizeLine := Nat.lt_of_lt_of_le h (by decide)
/-- an item at an int that lies in the list -/
theorem atI_in {α : Type} {xs : List α} {i : Int} (h0 : 0 ≤ i) (h1 : i < xs.length) : ∃ v, v ∈ xs ∧ xs[i.toNat]? = some v ∧ atI xs i = some v := by
  have hi : i.toNat < xs.length := by omega
  refine ⟨xs[i.toNat], List.getElem_mem hi, List.getElem?_eq_getElem hi, ?_⟩
  have q := atI_nat (xs := xs) (j := i.toNat) (v := xs[i.toNat]) (List.getElem?_eq_getElem hi)
  rw [show ((i.toNat : Nat) : Int) = i by omega] at q
  exact q
theorem atI_ints {ns : List Int} {i : Int} (h0 : 0 ≤ i) (h1 : i < ns.length) : ∃ n, n ∈ ns ∧ ns[i.toNat]? = some n ∧ atI (ns.map V.int) i = some (.int n) := by
  have hi : i.toNat < ns.length := by omega
  refine ⟨ns[i.toNat], List.getElem_mem hi, List.getElem?_eq_getElem hi, ?_⟩
  have q := atI_nat (xs := ns.map V.int) (j := i.toNat) (v := .int ns[i.toNat]) (by rw [List.getElem?_map, List.getElem?_eq_getElem hi]; rfl)
  rw [show ((i.toNat : Nat) : Int) = i by omega] at q
  exact q
end Wr

set_option Elab.async false
set_option linter.all false
set_option maxRecDepth 100000
set_option maxHeartbeats 2000000
namespace Wr
open PySem PySem.Spec PyProof.Rows L2
/-! ### xs.extend(t), t a tuple -/
theorem ext_tup (l b : Addr) (mine more : Array Value) (n n2 : Nat) (o : Obj) (hc : o.cls = .type "tuple") (hd : o.data = .seq more n2) (hz : mine.size + more.size ≤ sizeLine) :
    Meets (Builtin.«list.extend» ⟨[.ref l, .ref b], []⟩) (fun _ R s => s.heap.get? l = some { cls := .type "list", data := .seq mine n } ∧ s.heap.get? b = some o ∧ R (.ok (.ret .none)) { s with heap := s.heap.update l (Obj.mapSeq (· ++ more)) }) := by
  refine .of_wp fun prog w A R s h => ?_
  obtain ⟨hl, hb, hR⟩ := h
  show wpAny _ _ (Builtin.List.listExtendWith (.ref l) (.ref b) .none) _ _ s
  unfold Builtin.List.listExtendWith
  refine wpAny_bind (wpAny_typeOf ⟨o, hb, hc⟩ ?_)
  have same : (Builtin.List.listSameRef (.ref l) (.ref b) || Value.type "tuple" == Value.type "list" || Value.type "tuple" == Value.type "tuple") = true := by simp
  simp only [same, if_true]
  refine wpAny_bind ?_
  unfold Builtin.List.listItems
  refine wpAny_bind (wpAny_seqItems hb hd (wpAny_pure ?_))
  refine wpAny_bind ?_
  refine wpAny_bind (wpAny_seqItems hl rfl (wpAny_pure ?_))
  have door : (!mine.isEmpty && Builtin.List.listTooLong (mine.size + more.size)) = false := by rw [notLongL hz, Bool.and_false]
  simp only [door]
  show wpAny _ _ (updateSeq l (· ++ more) >>= fun _ => ret .none) _ _ s
  refine wpAny_bind (wpAny_updateSeq hl rfl ?_ (by omega) (by rw [Array.size_append]; omega))
  exact wpAny_pure ⟨_, rfl, hR⟩
def rExtT (K : PySem.W.Frag) : V → List V → Hp → VK → Prop := fun x vs H Q => ∃ l b xs zs, x = .ref l ∧ vs = [.ref b] ∧ H l = some (.lst xs) ∧ SqT K H b zs ∧ xs.length + zs.length ≤ sizeLine ∧ Q .non (upd H l (.lst (xs ++ zs)))
theorem mt_extT {X : Cx} : MtM X "list.extend" (rExtT X.K) := by
  intro pins s σ H x vs v us Q I rx rv h
  obtain ⟨l, b, xs, zs, rfl, rfl, hH, hB, hz, q⟩ := h
  cases rx
  obtain ⟨u, rfl, ru⟩ := rv.one
  cases ru
  obtain ⟨_, mine, n, r, hl, e⟩ := I.lstM hH
  obtain ⟨more, r2, ⟨o, ho, hc, n2, hd⟩, _⟩ := I.tuple hB
  have hl2 := r2.length
  refine call_meets F.slot_list_extend ⟨_, e, rfl⟩ F.entry_list_extend (F.args_list_extend_2 _ _) (ext_tup l b mine.toArray more.toArray n n2 o hc hd (by rw [List.size_toArray, List.size_toArray]; omega)) ⟨e, ho, ?_⟩
  exact ⟨.non, _, I.lset (its' := mine ++ more) hH e (by simp) (r.append r2) (by rw [List.length_append]; omega), rfl, q⟩
end Wr

set_option Elab.async false
set_option linter.all false
set_option maxRecDepth 100000
set_option maxHeartbeats 3200000
namespace Wr
open PySem PySem.Spec PyProof.Rows
/-! ### set(xs) of a list of keys of one kind, with or without repeats -/
section
variable {α : Type} [DecidableEq α]
/-- the first i keys, each once -/
def met (f : Nat → α) : Nat → List α
  | 0 => []
  | i + 1 => if f i ∈ met f i then met f i else met f i ++ [f i]
theorem met_len (f : Nat → α) : ∀ i, (met f i).length ≤ i
  | 0 => Nat.le_refl _
  | i + 1 => by
    have ih := met_len f i
    rw [met]
    split
    · omega
    · rw [List.length_append, List.length_singleton]
      omega
theorem met_any (f : Nat → α) (i : Nat) (x : α) : (decide (x ∈ met f i) || decide (x = f i)) = decide (x ∈ met f (i + 1)) := by
  rw [Bool.eq_iff_iff, Bool.or_eq_true, decide_eq_true_iff, decide_eq_true_iff, decide_eq_true_iff, met]
  split
  · rename_i h
    exact ⟨fun z => z.elim (fun z => z) fun z => by rw [z]; exact h, .inl⟩
  · rw [List.mem_append, List.mem_singleton]
theorem met_cnt (f : Nat → α) (i : Nat) : (if decide (f i ∈ met f i) = true then (met f i).length else (met f i).length + 1) = (met f (i + 1)).length := by
  rw [met]
  by_cases h : f i ∈ met f i
  · rw [if_pos h, if_pos (decide_eq_true h)]
  · rw [if_neg h, if_neg (by rw [decide_eq_false h]; decide), List.length_append, List.length_singleton]
end
section
variable {pr : Program} {w : World} {α : Type} [DecidableEq α] {A : Around} {R : Result → Shared → Prop} {J : Addr} {fp wr : List Addr} {Gn : Array GenState → Array GenState → Prop} {n : Nat} {Py : Nat → Value → Prop} {St : Nat → Shared → Prop}
theorem set_fill (kd : KeyKind pr w α) (W : WalksS pr w A.in1 J fp wr Gn n Py St) (D : Addr) (hD : D ∉ fp) (f : Nat → α) (hf : ∀ i v, Py i v → kd.is (f i) v = true ∧ v.scannable = true) (hb : n + 1 < scanBound) :
    ∀ (m i : Nat) (s : Shared), n - i = m → i ≤ n → St i s → s.heap.SetOf kd D (fun x => decide (x ∈ met f i)) (met f i).length →
      (∀ s', Moved (D :: wr) Gn s s' → s'.heap.SetOf kd D (fun x => decide (x ∈ met f n)) (met f n).length → R (.ok (.ret .none)) s') →
      codeAny (model pr w) A (.builtin "set.update.loop" ⟨[.ref D, .ref J], []⟩) R s := by
  have nw : D ∉ wr := fun z => hD (W.sub _ z)
  have up : ∀ b ∈ wr, b ∈ D :: wr := fun b z => List.mem_cons_of_mem _ z
  intro m
  induction m with
  | zero =>
    intro i s e0 hi hst hS hR
    obtain rfl : i = n := by omega
    refine codeAny_builtin PyProof.Rows.F.entry_set_update_loop ?_; rw [Around.under_plainId PyProof.Rows.F.plain_set_update_loop _]
    show wpAny _ A.in1 (pyNext (.ref J) >>= _) _ _ s
    refine wpAny_bind (W.done s _ _ hst fun s1 mv => ?_)
    show wpAny _ A.in1 (ret Value.none) _ _ s1
    refine wpAny_pure (hR s1 (mv.mono up) ?_)
    obtain ⟨ob, es, ep, tb, g1, more⟩ := hS
    exact ⟨ob, es, ep, tb, mv.heap D _ nw g1, more⟩
  | succ m ih =>
    intro i s e0 hi hst hS hR
    have lt : i < n := by omega
    refine codeAny_builtin PyProof.Rows.F.entry_set_update_loop ?_; rw [Around.under_plainId PyProof.Rows.F.plain_set_update_loop _]
    show wpAny _ A.in1 (pyNext (.ref J) >>= _) _ _ s
    refine wpAny_bind (W.item i s _ _ lt hst fun v s1 hv st1 mv => ?_)
    obtain ⟨kv, sv⟩ := hf i v hv
    have hS1 : s1.heap.SetOf kd D (fun x => decide (x ∈ met f i)) (met f i).length := by
      obtain ⟨ob, es, ep, tb, g1, more⟩ := hS
      exact ⟨ob, es, ep, tb, mv.heap D _ nw g1, more⟩
    show wpAny _ A.in1 (holding [v] (setAdd D v) >>= _) _ _ s1
    refine wpAny_bind (wpAny_holding ?_)
    unfold setAdd
    refine wpAny_holding (wpAny_bind (kd.pyHash kv ?_))
    refine wpAny_setAddHashed_of (knd := kd) (s := { s1 with toks := s1.toks + 1 }) kv sv hS1 (by have := met_len f i; omega) fun h2 sb hS2 => ?_
    have hS3 : h2.SetOf kd D (fun x => decide (x ∈ met f (i + 1))) (met f (i + 1)).length := by
      rw [met_cnt] at hS2
      have e : (fun x => decide (x ∈ met f i) || decide (x = f i)) = fun x => decide (x ∈ met f (i + 1)) := funext fun x => met_any f i x
      rw [e] at hS2
      exact hS2
    refine wpAny_pure ⟨plainId_quiet PyProof.Rows.F.plain_set_update_loop _, ih (i + 1) _ (by omega) lt (W.frame _ s1 _ _ st1 (Nat.le_succ _) fun b hb o e => ?_) hS3 fun s9 mv9 hS9 => ?_⟩
    · rw [sb.2 b fun z : b = D => hD (z ▸ hb)]
      exact e
    · refine hR s9 (Moved.trans W.gtrans ((mv.mono up).then_heap (Nat.le_succ _) fun b o hb e => ?_) mv9) hS9
      rw [sb.2 b fun z : b = D => hb (by rw [z]; exact List.mem_cons_self)]
      exact e
end
section
variable {pr : Program} {w : World} {α : Type} [DecidableEq α] {A : Around} {E : Value → Shared → Prop} {s : Shared}
/-- the empty set as it is made -/
abbrev set0 (z : Bool) : Obj := { cls := .type "set", dict := none, data := .set #[] 0 (.fresh 0 0 z) }
theorem set_call (kd : KeyKind pr w α) {l : Addr} {its : Array Value} {Q : Value → Shared → Prop} (f : Nat → α) (hh : A.handled = none) (hl : s.heap.IsList l its) (hf : ∀ i v, its[i]? = some v → kd.is (f i) v = true ∧ v.scannable = true) (hb : its.size + 1 < scanBound)
    (h : ∀ (h2 : Heap) (tk : Nat), h2.SetOf kd s.heap.objs.size (fun x => decide (x ∈ met f its.size)) (met f its.size).length →
      (∀ b o, b < s.heap.objs.size → s.heap.get? b = some o → h2.get? b = some o) → Q (.ref s.heap.objs.size) { s with heap := h2, toks := tk }) :
    wpAny (model pr w) A (call (.type "set") [.ref l]) Q E s := by
  obtain ⟨c0, tl, q0⟩ := PySem.F.called_set.mro
  have q1 := PySem.F.called_set.made
  have q2 := PySem.F.called_set.sub
  refine wpAny_call (codeAny_of_tree ?_)
  show wpAny _ _ (callAny (.type "set") _) _ _ _
  refine wpAny_pure ⟨Code.quiet_builtin _ (by decide +kernel), codeAny_builtin PySem.F.entry_type_call ?_⟩; rw [Around.under_plain (weight_type_call_type "set" [.ref l] []) rfl]
  have q3 := PySem.F.called_set.notType
  have q4 := PySem.F.called_set.canCreate
  have q5 := PySem.F.typeCall_set_1 (.ref l)
  repeat (any_goals (first | assumption | wp_step))
  refine codeAny_mono (code_set_new_1 (.ref l) (E := E) (Q₁ := fun ob s1 => ∃ z : Bool, ob = .ref s.heap.objs.size ∧ s1 = { s with heap := s.heap.push (set0 z) }) fun z => ⟨z, rfl, rfl⟩) fun r s1 hr => ?_
  cases r with
  | error e => exact hr
  | ok fl =>
    cases fl with
    | ret ob =>
      obtain ⟨z, rfl, rfl⟩ := hr
      have g0 : (s.heap.push (set0 z)).get? s.heap.objs.size = some (set0 z) := Heap.get?_push_size _ rfl
      have ty : Shared.TypeIs { s with heap := s.heap.push (set0 z) } (.ref s.heap.objs.size) "set" := ⟨_, g0, rfl⟩
      have q6 := PySem.F.called_set.init.lookup
      have q7 := PySem.F.called_set.init.bind (.ref s.heap.objs.size)
      repeat (any_goals (first | assumption | wp_step))
      refine codeAny_mono (codeAny_call_builtin (R := wants (fun r s2 => r = .none ∧ ∃ h2 tk, s2 = { s with heap := h2, toks := tk } ∧ h2.SetOf kd s.heap.objs.size (fun x => decide (x ∈ met f its.size)) (met f its.size).length ∧
          (∀ b o, b < s.heap.objs.size → s.heap.get? b = some o → h2.get? b = some o)) E) PySem.F.called_set.init.plain PySem.F.entry_set_init (check_set_init_1 ty ?_)) fun r2 s2 hr2 => ?_
      · obtain ⟨ol, go, cl, nl, dl⟩ := hl
        obtain ⟨ocls, odict, odata, oslots⟩ := ol
        simp only at cl dl
        subst cl; subst dl
        have go2 : (s.heap.push (set0 z)).get? l = some { cls := .type "list", dict := odict, data := .seq its nl, slots := oslots } := Heap.get?_push_of_some _ go
        have q8 := PySem.F.sub_list_set
        have q9 := PySem.F.sub_list_frozenset
        have nd : (Value.type "list" == Value.type "dict") = false := by decide
        have hl1 : (s.heap.push (set0 z)).IsList l its := ⟨_, go2, rfl, nl, rfl⟩
        unfold Builtin.«set.__init__» noKeywords Builtin.Frozenset.updateFrom
        generalize hPI : pyIter = PI
        wp_walk
        subst hPI
        refine wpAny_pyIter_list hl1 (wpAny_bind (wpAny_runValue ?_))
        have ll : l < s.heap.objs.size := Heap.lt_size go
        have h3 : A.in1.in1.in1.handled = none := by simp [hh]
        have nI : l ≠ (s.heap.push (set0 z)).objs.size := by rw [Heap.size_push]; exact Nat.ne_of_lt (Nat.lt_succ_of_lt ll)
        have nf : s.heap.objs.size ∉ [(s.heap.push (set0 z)).objs.size, l] := by
          rw [Heap.size_push]
          intro y
          rcases List.mem_cons.mp y with y | y
          · exact Nat.ne_of_lt (Nat.lt_succ_self _) y
          · exact Nat.ne_of_gt ll (List.mem_singleton.mp y)
        refine set_fill kd ((Walks.list h3 _ l nI its).toS) s.heap.objs.size nf f hf hb (its.size - 0) 0 _ (by omega) (Nat.zero_le _) ⟨⟨_, Heap.get?_push_size _ rfl, rfl, rfl⟩, (hl1.push _)⟩ ?z0 ?zR
        case z0 =>
          have gg : ((s.heap.push (set0 z)).push { cls := .type "list_iterator", data := .fields #[.ref l, .int 0 0] }).get? s.heap.objs.size = some (set0 z) := Heap.get?_push_of_some _ g0
          have e0 : (fun x : α => decide (x ∈ met f 0)) = fun _ => false := funext fun x => rfl
          rw [e0]
          exact (PyProof.Rows.setObjOf_fresh (knd := kd) z).setOf gg (by unfold scanBound; omega)
        case zR =>
          intro s9 mv hS9
          obtain ⟨h9, g9, d9, t9, o9⟩ := s9
          have e1 : g9 = s.gens := mv.gens
          have e2 : d9 = s.drawn := mv.drawn
          have e3 : o9 = s.os := mv.os
          subst e1; subst e2; subst e3
          show wpAny _ _ _ _ _ _
          refine wpAny_pure ?_
          show wpAny _ _ (ret Value.none) _ _ _
          refine wpAny_pure ⟨rfl, h9, t9, rfl, hS9, fun b o hb e => ?_⟩
          refine mv.heap b o (fun y => ?_) (Heap.get?_push_of_some _ (Heap.get?_push_of_some _ e))
          rcases List.mem_cons.mp y with y | y
          · exact Nat.ne_of_lt hb y
          · rw [List.mem_singleton.mp y, Heap.size_push] at hb
            exact Nat.lt_irrefl _ (Nat.lt_of_lt_of_le hb (Nat.le_succ _))
      · cases r2 with
        | error e => exact hr2
        | ok f2 =>
          cases f2 with
          | ret r =>
            obtain ⟨rfl, h2, tk, rfl, hS, hk⟩ := hr2
            repeat (any_goals (first | assumption | wp_step))
            exact h _ _ hS hk
          | _ => exact hr2.elim
    | _ => exact hr.elim
end
end Wr

set_option Elab.async false
set_option linter.all false
set_option maxRecDepth 100000
set_option maxHeartbeats 2000000
namespace Wr
open PySem PySem.Spec PyProof.Rows L2
/-! ### len(set(xs)), xs a list of texts -/
def once (xs : List Str) : List Str := met (fun i => xs.getD i Str.empty) xs.length
theorem met_nd {α : Type} [DecidableEq α] (f : Nat → α) : ∀ i, (met f i).length = i ↔ ((List.range i).map f).Nodup
  | 0 => ⟨fun _ => List.nodup_nil, fun _ => rfl⟩
  | i + 1 => by
    have ih := met_nd f i
    have mem : ∀ j x, x ∈ met f j ↔ x ∈ (List.range j).map f := by
      intro j
      induction j with
      | zero => exact fun x => Iff.rfl
      | succ j ihj =>
        intro x
        rw [List.range_succ, List.map_append, List.map_singleton, List.mem_append, List.mem_singleton, ← ihj x, met]
        split
        · rename_i h
          exact ⟨.inl, fun z => z.elim (fun z => z) fun z => by rw [z]; exact h⟩
        · rw [List.mem_append, List.mem_singleton]
    rw [List.range_succ, List.map_append, List.map_singleton, List.nodup_append, ← ih, met]
    have hle := met_len f i
    by_cases h : f i ∈ met f i
    · rw [if_pos h]
      constructor
      · intro z
        omega
      · intro ⟨_, _, z⟩
        exact absurd rfl (z (f i) ((mem i _).mp h) (f i) (by simp))
    · rw [if_neg h, List.length_append, List.length_singleton]
      constructor
      · intro z
        refine ⟨by omega, List.nodup_cons.mpr ⟨by simp, List.nodup_nil⟩, fun a ha b hb e => h ((mem i _).mpr ?_)⟩
        rw [← List.mem_singleton.mp hb, ← e]
        exact ha
      · intro ⟨z, _⟩
        omega
theorem once_nd (xs : List Str) : (once xs).length = xs.length ↔ xs.Nodup := by
  unfold once
  rw [met_nd]
  have e : (List.range xs.length).map (fun i => xs.getD i Str.empty) = xs := by
    apply List.ext_getElem
    · simp
    · intro i h1 h2
      simp [h2]
  rw [e]
def tLenSetT (K : PySem.W.Frag) (ta : TE) : TE := fun σ H Q => ta σ H fun x H1 => ∃ (l : Addr) (xs : List Str), x = .ref l ∧ SqL K H1 l (xs.map V.str) ∧ xs.length ≤ 1000 ∧ Q (.int (once xs).length) H1
theorem pe_lenSetT {X : Cx} {a : Expr} {ta : TE} {p1 p2 p3 p4 : Pos} (hc : X.calm = true) (hg : Gl X "len") (hm : X.mg "len" = none) (hg2 : Gl X "set") (hm2 : X.mg "set" = none) (ha : PE X a ta)
    (na : starEach [a] X.env = (false, eval a X.env) :: starEach [] X.env := by rfl) : PE X (.Call (.Name "len" p1) [.Call (.Name "set" p2) [a] [] p3] [] p4) (tLenSetT X.K ta) := by
  refine ⟨fun pins s σ H Q I h => ?_⟩
  refine Call_ (ld_blt I hg hm boot_len (PyProof.Rows.callWith_builtin1 (PyProof.Rows.args_cons ?_ rfl) rfl rfl))
  refine Call_ (ld_blt I hg2 hm2 boot_set (PyProof.Rows.callWith_type1 (PyProof.Rows.args_cons (thn (ha.run pins s σ H _ I h) fun v s1 ⟨x, H1, I1, r1, q1⟩ => PyProof.Rows.args_nil ?_) na) na rfl))
  obtain ⟨l, xs, rfl, hq, hlen, q1⟩ := q1
  cases r1
  obtain ⟨its, r, pl, _⟩ := I1.list hq
  have e0 : its.toArray.size = xs.length := by rw [List.size_toArray, ← r.length, List.length_map]
  have at_ : ∀ (i : Nat) (v : Value), its.toArray[i]? = some v → (PySem.strKind X.prog X.w).is (xs.getD i Str.empty) v = true ∧ v.scannable = true := fun i v hv => by
    have hi : i < its.toArray.size := by
      obtain ⟨hi, _⟩ := Array.getElem?_eq_some_iff.mp hv
      exact hi
    rw [e0] at hi
    have g : (xs.map V.str)[i]? = some (.str xs[i]) := by rw [List.getElem?_map, List.getElem?_eq_getElem hi]; rfl
    obtain ⟨u, hu, t, rfl⟩ := r.get g
    have hv2 : its[i]? = some v := by simpa using hv
    rw [hu] at hv2
    cases hv2
    rw [List.getD_eq_getElem?_getD, List.getElem?_eq_getElem hi]
    exact ⟨strKind_is _ _ _ _, rfl⟩
  refine set_call (PySem.strKind X.prog X.w) (fun i => xs.getD i Str.empty) (I1.ok.hd hc) pl.isList at_ (by rw [e0]; unfold scanBound; omega) fun h2 tk hS hk => ?_
  refine PyProof.Rows.args_nil ?_
  rw [e0] at hS
  obtain ⟨ob, es, ep, tb, g1, ex, gd, _, _, _, ft, hn⟩ := hS
  have I2 : Inv X pins σ H1 { s1 with heap := h2, toks := tk } := I1.kept fun b o e => hk b o (Heap.lt_size e) e
  have small : (met (fun i => xs.getD i Str.empty) xs.length).length ≤ xs.length := met_len _ _
  exact call_len_set g1 ex gd ft (by rw [hn]; omega) ⟨.int (once xs).length, H1, I2.tok _, ⟨_, by rw [hn]; rfl⟩, q1⟩
end Wr

set_option Elab.async false
set_option linter.all false
set_option maxRecDepth 100000
set_option maxHeartbeats 3200000
namespace Wr
open PySem PySem.Spec PyProof.Rows L2
/-! ### for i, x in enumerate(t), t a tuple (or a list) -/
abbrev tIter (t : Addr) : Obj := { cls := .type "tuple_iterator", data := .fields #[.ref t, .int 0 0] }
abbrev enumO (it : Addr) : Obj := { cls := .type "enumerate", data := .fields #[.none, .bool false, .ref it, rawInt 0, .none, .none] }
theorem enum_newT (t : Addr) (its : Array Value) (n : Nat) (dc : Option Addr) (sl : Array (Option Value)) :
    Meets (Builtin.«enumerate.__new__» ⟨[.type "enumerate", .ref t], []⟩) (fun _ R s => s.heap.get? t = some { cls := .type "tuple", dict := dc, data := .seq its n, slots := sl } ∧
      R (.ok (.ret (.ref (s.heap.push (tIter t)).objs.size))) { s with heap := (s.heap.push (tIter t)).push (enumO s.heap.objs.size) }) :=
  .of_wp fun pr w A R s h => by
    obtain ⟨hp, gn, dr, tk, os⟩ := s
    obtain ⟨ht, hR⟩ := h
    have q1 := sub_enumerate
    have isT : Heap.IsTuple (Shared.heap ⟨hp, gn, dr, tk, os⟩) t its := ⟨_, ht, rfl, n, rfl⟩
    wp_walk using AutoSeq1.wpAny_loadPart' ht
    refine wpAny_stack_any fun st => wpAny_pure ?_
    split
    · rename_i c _ _ _ _ _
      cases (c == Value.type "enumerate") <;> (wp_walk using AutoSeq1.wpAny_loadPart' ht, wpAny_pyIter_tuple isT; exact ⟨_, rfl, hR⟩)
    · wp_walk using AutoSeq1.wpAny_loadPart' ht, wpAny_pyIter_tuple isT
      exact ⟨_, rfl, hR⟩
section
variable {pr : Program} {w : World} {A : Around} {E : Value → Shared → Prop} {s : Shared}
theorem enum_callT {t : Addr} {its : Array Value} {Q : Value → Shared → Prop} (ht : s.heap.IsTuple t its)
    (h : ∀ h2, IsEnum h2 (s.heap.objs.size + 1) s.heap.objs.size 0 .none → h2.IsTupleIter s.heap.objs.size t 0 → (∀ b o, s.heap.get? b = some o → h2.get? b = some o) → Q (.ref (s.heap.objs.size + 1)) { s with heap := h2 }) :
    wpAny (model pr w) A (call (.type "enumerate") [.ref t]) Q E s := by
  obtain ⟨⟨c, dc, dt, sl⟩, ho, hc, n, hd⟩ := ht
  obtain rfl : c = .type "tuple" := hc
  obtain rfl : dt = .seq its n := hd
  refine callType_new F.called_enumerate (by decide) (F.typeCall_enumerate_1 _) (F.newCall_enumerate_1 _) (fun ob => F.args_object_init_2 ob _) F.entry_enumerate_new (enum_newT t its n dc sl) ⟨ho, ?_⟩
  have sz1 : (s.heap.push (tIter t)).objs.size = s.heap.objs.size + 1 := Heap.size_push ..
  show _ ∧ _
  rw [sz1]
  have he : IsEnum ((s.heap.push (tIter t)).push (enumO s.heap.objs.size)) (s.heap.objs.size + 1) s.heap.objs.size 0 .none := by
    have q := Heap.get?_push_size (s.heap.push (tIter t)) (o := enumO s.heap.objs.size) rfl
    rw [sz1] at q
    exact q
  exact ⟨⟨_, he, rfl⟩, h _ he ⟨_, Heap.get?_push_of_some _ (Heap.get?_push_size _ rfl), rfl, rfl⟩ fun b o x => Heap.get?_push_of_some _ (Heap.get?_push_of_some _ x)⟩
end
def IteT (K : PySem.W.Frag) (a : Addr) : It :=
  ⟨fun i H => ∃ (xs : List V) (x : V), SqT K H a xs ∧ xs[i]? = some x, fun i H v H' => ∃ T x, v = .ref T ∧ H T = none ∧ H' = upd H T (.tup [.int (i : Nat), x]) ∧ ∀ xs, SqT K H a xs → xs[i]? = some x, fun i H => ∃ xs : List V, SqT K H a xs ∧ xs.length = i⟩
theorem walk_enumT {K : PySem.W.Frag} {a : Addr} {xs : List V} : Walk (IteT K a) xs.length (fun H => SqT K H a xs) (YPair (fun i => some (.int (i : Nat))) (fun i => xs[i]?)) := by
  refine ⟨fun i _ hi q => ⟨xs, xs[i], q, by simp [hi]⟩, fun _ q => ⟨xs, q, rfl⟩, fun i H v H' _ q y => ?_⟩
  obtain ⟨T, x, h1, h2, h3, h4⟩ := y
  exact ⟨T, .int (i : Nat), x, h1, h2, h3, rfl, h4 xs q⟩
theorem turn_enumT {P : Program} {w : World} {K : PySem.W.Frag} {elts : List Expr} {kk : Nat} {tpos : Pos} (a e it : Addr) (hn : e ≠ it) (ha : a ≠ e) (hb : a ≠ it) :
    Turn P w K (.Tuple elts kk tpos) (IteT K a) [e, it] e (fun i h => (∃ old, IsEnum h e it ((i : Nat) : Int) old) ∧ h.IsTupleIter it a i) where
  mem := by simp
  obj := fun i h st b hb => by
    obtain ⟨⟨old, he⟩, o, ho, hc, hd⟩ := st
    rcases List.mem_cons.mp hb with z | z
    · rw [z]
      exact ⟨_, he, fun v q => nomatch q⟩
    · rw [List.mem_singleton.mp z]
      exact ⟨o, ho, fun v q => by rw [hd] at q; cases q⟩
  keep := fun i h h' st k => let ⟨⟨old, he⟩, hi⟩ := st; ⟨⟨old, k e (by simp) _ he⟩, hi.at fun o q => k it (by simp) o q⟩
  item := by
    intro X hP hw hK hc i pins s σ H E I hf st hg
    subst hP hw hK
    obtain ⟨⟨old, he⟩, hit⟩ := st
    obtain ⟨xs, x, hq, hx⟩ := hg
    obtain ⟨its, rv, p, _⟩ := I.tuple hq
    obtain ⟨u, hu, ru⟩ := rv.get hx
    have e1 : e < s.heap.objs.size := Heap.lt_size he
    have e2 : it < s.heap.objs.size := by obtain ⟨_, q, _⟩ := hit; exact Heap.lt_size q
    have isT : s.heap.IsTuple a its.toArray := p
    have hilt : i < its.toArray.size := by
      have := (List.getElem?_eq_some_iff.mp hu).1
      simpa using this
    refine wpAny_pyNext_enum_itemD (Draws.tuple (A := X.A.in1) (by simpa using I.ok.hd hc) it a hb its.toArray) he ⟨hit, isT⟩ hilt hn (by simp [hn, Ne.symm ha]) fun x2 h1 tk hx2 ho st1 hT hsz hk => ?_
    have eu : x2 = u := by
      have hx2' : its[i]? = some x2 := by simpa using hx2
      rw [hu] at hx2'
      exact (Option.some.inj hx2').symm
    subst eu
    refine ⟨_, rfl, wpAny_letOwnedTupleGo_enum (s := { s with heap := h1, toks := tk + 1 }) ho fun h2 he2 sb => ?_⟩
    have hT2 : h2.get? s.heap.objs.size = some { cls := .type "tuple", data := .seq #[.int i tk, x2] } := (sb.2 _ (Nat.ne_of_gt e1)).trans hT
    have new : ObjOk X.prog X.w (upd H s.heap.objs.size (.tup [.int (i : Nat), x])) h2 s.heap.objs.size (.tup [.int (i : Nat), x]) :=
      ⟨(by decide : 2 ≤ sizeLine), [.int i tk, x2], .cons ⟨_, rfl⟩ (.cons ru .nil), ⟨_, hT2, rfl, _, rfl⟩⟩
    have I1 : Inv X pins σ (upd H s.heap.objs.size (.tup [.int (i : Nat), x])) { s with heap := h2, toks := tk + 1 } := by
      refine I.turnedNew (ch := [e, it]) (fun b ob nb q => ?_) hf (Nat.le_refl _) new
      have n1 : b ≠ e := fun z => nb (by simp [z])
      have n2 : b ≠ it := fun z => nb (by simp [z])
      exact (sb.2 b n1).trans (hk b ob n1 n2 q)
    refine ⟨.ref s.heap.objs.size, _, I1, rfl, ⟨_, x, rfl, I.hok.fresh (Nat.le_refl _), rfl, fun ys hy => by rw [I.tuple_inj hy hq]; exact hx⟩, ⟨⟨x2, ?_⟩, st1.1.at fun o q => (sb.2 it (Ne.symm hn)).trans q⟩, fun b hb => ?_⟩
    · rw [show ((i + 1 : Nat) : Int) = (i : Int) + 1 by omega]
      exact he2
    · have lb : b < s.heap.objs.size := by
        rcases List.mem_cons.mp hb with z | z
        · rw [z]; exact e1
        · rw [List.mem_singleton.mp z]; exact e2
      rw [upd_ne (Nat.ne_of_lt lb)]
      exact (hf b hb).1
  done := by
    intro X hP hw hK hc i pins s σ H E I hf st hg
    subst hP hw hK
    obtain ⟨⟨old, he⟩, hit⟩ := st
    obtain ⟨xs, hq, hx⟩ := hg
    obtain ⟨its, rv, p, _⟩ := I.tuple hq
    have isT : s.heap.IsTuple a its.toArray := p
    have en : its.toArray.size = i := by rw [List.size_toArray, ← rv.length]; exact hx
    obtain ⟨f0, f1, f2, f3, f4, f5⟩ := hf it (by simp)
    refine wpAny_pyNext_enum_endD (Draws.tuple (A := X.A.in1) (by simpa using I.ok.hd hc) it a hb its.toArray) he ⟨by rw [en]; exact hit, isT⟩ fun h1 eb => ⟨rfl, ?_⟩
    exact I.turned (t' := s.toks) (fun b o hb q => eb b o hb q) f0 f1 f3 f4 f5
  self := fun A i s Q E st h => let ⟨⟨_, he⟩, _⟩ := st; wpAny_pyIter_enum he h
def iEnumS (K : PySem.W.Frag) (ta : TA) : TI := fun σ H R => ta σ H fun vs H1 => ∃ a xs, vs = [.ref a] ∧ (SqL K H1 a xs ∨ SqT K H1 a xs) ∧
  ∀ (J : It) (Gd : Hp → Prop), Walk J xs.length Gd (YPair (fun i => some (.int (i : Nat))) (fun i => xs[i]?)) → (∀ H2, (SqL K H1 a xs → SqL K H2 a xs) → (SqT K H1 a xs → SqT K H2 a xs) → Gd H2) → R J H1
theorem pi_enumS {X : Cx} {e : Expr} {ta : TA} {p1 p2 p3 : Pos} {elts : List Expr} {kk : Nat} (hg : Gl X "enumerate") (hm : X.mg "enumerate" = none) (ha : PA X [e] ta) (hs : starEach [e] X.env = [(false, eval e X.env)] := by rfl) :
    PI X (.Tuple elts kk p3) (.Call (.Name "enumerate" p1) [e] [] p2) (iEnumS X.K ta) := by
  refine ⟨fun pins s σ H R I h => ?_⟩
  refine Call_ (ld_blt I hg hm boot_enumerate (PyProof.Rows.callWith_type1 (thn (ha.run p2 pins s σ H _ I h) fun us s1 ⟨vs, H1, I1, r1, q1⟩ => ?_) hs rfl))
  obtain ⟨a, xs, rfl, hq, q⟩ := q1
  obtain ⟨u, rfl, r⟩ := vals1 r1
  cases r
  have fr : ∀ b ∈ [s1.heap.objs.size + 1, s1.heap.objs.size], FpOk X pins H1 b := fun b hb => by
    have hle : s1.heap.objs.size ≤ b := by
      rcases List.mem_cons.mp hb with z | z
      · rw [z]; exact Nat.le_succ _
      · rw [List.mem_singleton.mp z]; exact Nat.le_refl _
    exact I1.fpOk hle (I1.hok.fresh hle)
  rcases hq with hq | hq
  · obtain ⟨its, rv, p, _⟩ := I1.list hq
    refine call_enumerate_list p.isList fun h2 he hit _ hk => wpAny_pyIter_enum he ?_
    exact ⟨s1.heap.objs.size + 1, _, _, _, H1, rfl, I1.kept (t' := s1.toks) hk, turn_enum a (s1.heap.objs.size + 1) s1.heap.objs.size, ⟨⟨.none, he⟩, hit, Nat.succ_ne_self _⟩, fr, q _ _ walk_enum fun H2 f _ => f hq⟩
  · obtain ⟨its, rv, p, _⟩ := I1.tuple hq
    have la : a < s1.heap.objs.size := p.lt
    refine enum_callT (show s1.heap.IsTuple a its.toArray from p) fun h2 he hit hk => wpAny_pyIter_enum he ?_
    exact ⟨s1.heap.objs.size + 1, _, _, _, H1, rfl, I1.kept (t' := s1.toks) hk, turn_enumT a (s1.heap.objs.size + 1) s1.heap.objs.size (Nat.succ_ne_self _) (Nat.ne_of_lt (Nat.lt_succ_of_lt la)) (Nat.ne_of_lt la), ⟨⟨.none, he⟩, hit⟩, fr, q _ _ walk_enumT fun H2 _ f => f hq⟩
end Wr

set_option Elab.async false
set_option linter.all false
set_option maxRecDepth 100000
set_option maxHeartbeats 3200000
namespace Wr
open PySem PySem.Spec PyProof.Rows L2
/-! ### xs[::-1], xs a list or a tuple -/
section
variable {pr : Program} {w : World} {A : Around} {E : Value → Shared → Prop} {s : Shared}
theorem adjust_back (n : Nat) : Builtin.Slice.sliceAdjust none none (-1) (n : Int) = ((n : Int) - 1, -1) := by
  unfold Builtin.Slice.sliceAdjust
  simp
theorem places_back (n : Nat) : Builtin.Slice.slicePlaces ((n : Int) - 1) (-1) (-1) = n := by
  unfold Builtin.Slice.slicePlaces
  simp
  try omega
theorem fm_congr {α β : Type} {f g : α → Option β} : ∀ {l : List α}, (∀ k ∈ l, f k = g k) → l.filterMap f = l.filterMap g
  | [], _ => rfl
  | a :: r, h => by
    rw [List.filterMap_cons, List.filterMap_cons, h a (List.mem_cons_self ..), fm_congr fun k hk => h k (List.mem_cons_of_mem _ hk)]
theorem pick_back (xs : List Value) : (List.range xs.length).filterMap (fun (k : Nat) => xs[((xs.length : Int) - 1 + (k : Int) * (-1)).toNat]?) = xs.reverse := by
  have e : ∀ k ∈ List.range xs.length, xs[((xs.length : Int) - 1 + (k : Int) * (-1)).toNat]? = xs.reverse[k]? := by
    intro k hk
    have hk' := List.mem_range.mp hk
    rw [List.getElem?_reverse hk']
    congr 1
    omega
  rw [fm_congr e]
  have q : ∀ ys : List Value, (List.range ys.length).filterMap (fun k => ys[k]?) = ys := by
    intro ys
    induction ys with
    | nil => rfl
    | cons y r ih =>
      rw [List.length_cons, List.range_succ_eq_map, List.filterMap_cons, List.filterMap_map]
      simp only [List.getElem?_cons_zero]
      congr 1
  have z := q xs.reverse
  rw [List.length_reverse] at z
  exact z
theorem rev_tup {t sl : Addr} {its : List Value} {vs : Value} {Q : Value → Shared → Prop} (ht : IsTup s.heap t its.toArray) (hs : s.heap.IsSliceOf sl .none .none vs) (ps : IsPart vs (some (-1))) (hz : its.length ≤ sizeLine)
    (h : Q (.ref s.heap.objs.size) { s with heap := s.heap.push { cls := .type "tuple", data := .seq its.reverse.toArray } }) : wpAny (model pr w) A (getItem (.ref t) (.ref sl)) Q E s := by
  obtain ⟨os, g1, g2, g3⟩ := id hs
  have ty : s.TypeIs (.ref sl) "slice" := ⟨os, g1, g2⟩
  have fit : sizeOk (.seq its.reverse.toArray) := by
    show its.reverse.toArray.size ≤ sizeLine
    rw [List.size_toArray, List.length_reverse]
    exact hz
  unfold getItem
  try with_reducible refine wpAny_holding ?_
  first | refine wpAny_bind (wpAny_pure ?_) | skip
  refine wpAny_bind (wpAny_sequenceKey ht.typeIs (by decide) (wpAny_bind (wpAny_callSpecial?_slot (name := Str.ofString "__getitem__") ht.typeIs PyProof.Rows.slot_tuple_getitem (wpAny_call_entry PyProof.Rows.slot_tuple_getitem ht.typeIs entry_tuple_getitem ?_ (args_tuple_getitem _ _)))))
  show wpAny _ _ (Builtin.Tuple.tupleItemsOf (.ref t) >>= _) _ _ s
  refine wpAny_bind (tupleItemsOf_ ht (wpAny_bind (wpAny_typeOf ty ?_)))
  rw [if_pos (by decide)]
  refine wpAny_bind ?_
  · unfold Builtin.Slice.sliceApplied Builtin.Slice.sliceFields
    refine wpAny_bind (wpAny_bind (wpAny_field g1 g3 (x := .none) rfl (wpAny_bind (wpAny_field g1 g3 (x := .none) rfl (wpAny_bind (wpAny_field g1 g3 (x := vs) rfl (wpAny_pure ?_)))))))
    refine wpAny_bind (HT.slicePart_ ps ?_)
    show wpAny _ _ (if ((-1 : Int) == 0) = true then _ else _) _ _ s
    rw [if_neg (by decide)]
    refine wpAny_bind (HT.slicePart_ .none (wpAny_bind (HT.slicePart_ .none (wpAny_bind (wpAny_pure ?_)))))
    show wpAny _ _ (match Builtin.Slice.sliceAdjust none none (-1) ((its.toArray.size : Nat) : Int) with | (lo, hi) => pure (lo, (-1 : Int), Builtin.Slice.slicePlaces lo hi (-1))) _ _ s
    rw [adjust_back]
    show wpAny _ _ (pure (((its.toArray.size : Nat) : Int) - 1, (-1 : Int), Builtin.Slice.slicePlaces (((its.toArray.size : Nat) : Int) - 1) (-1) (-1))) _ _ s
    rw [places_back]
    refine wpAny_pure ?_
    have no : ¬ ((((its.toArray.size : Nat) : Int) - 1 == 0 && (-1 : Int) == 1 && its.toArray.size == its.toArray.size) = true) := by
      intro q
      rw [Bool.and_eq_true, Bool.and_eq_true] at q
      exact absurd (eq_of_beq q.1.2) (by decide)
    show wpAny _ _ (if ((((its.toArray.size : Nat) : Int) - 1 == 0 && (-1 : Int) == 1 && its.toArray.size == its.toArray.size) = true) then _ else _) _ _ s
    rw [if_neg no]
    have ep : ((List.range its.toArray.size).filterMap fun (k : Nat) => its.toArray[(((its.toArray.size : Nat) : Int) - 1 + (k : Int) * (-1)).toNat]?).toArray = its.reverse.toArray := by
      congr 1
      rw [List.size_toArray, ← pick_back its]
      simp
    rw [ep]
    first
      | exact wpAny_bind (m := Builtin.Tuple.tupleExact _) (wpAny_newObj_type (wpAny_pure ⟨_, rfl, wpAny_pure h⟩) fit)
      | exact wpAny_bind (m := Builtin.Tuple.tupleExact _) (wpAny_newObj_type (wpAny_bind (wpAny_pure (wpAny_pure ⟨_, rfl, wpAny_pure h⟩))) fit)
      | exact wpAny_bind (wpAny_bind (m := Builtin.Tuple.tupleExact _) (wpAny_newObj_type (wpAny_pure (wpAny_pure ⟨_, rfl, wpAny_pure h⟩)) fit))
      | exact wpAny_bind (wpAny_bind (m := Builtin.Tuple.tupleExact _) (wpAny_newObj_type (wpAny_pure ⟨_, rfl, wpAny_pure h⟩) fit))
end
/-- no object is a list and a tuple -/
theorem lt_not {X : Cx} {pins : List (Addr × Obj)} {σ : L2.St} {H : Hp} {s : Shared} {a : Addr} {xs ys : List V} (h1 : SqL X.K H a xs) (h2 : SqT X.K H a ys) (I : Inv X pins σ H s) : False := by
  obtain ⟨_, _, ⟨o, n, e, c, _⟩, _⟩ := I.list h1
  obtain ⟨_, _, ⟨o2, e2, c2, _⟩, _⟩ := I.tuple h2
  rw [e] at e2
  cases e2
  rw [c] at c2
  exact absurd c2 (by decide)
/-- tuple(xs), xs a list or a tuple -/
theorem call_tupA {X : Cx} : CallR X (.type "tuple") (fun vs H Q => ∃ a us, vs = [.ref a] ∧ (SqL X.K H a us ∨ SqT X.K H a us) ∧ ∀ p H2, Le H H2 → SqT X.K H2 p us → Q (.ref p) H2) := by
  intro pins s σ H vs us Q I r h
  obtain ⟨a, xs, rfl, hq, q⟩ := h
  rcases hq with hq | hq
  · exact call_tuple_of pins s σ H _ us Q I r ⟨a, xs, rfl, .inl ⟨hq, fun l hl => q l _ (Le.new hl) (sqt upd_same)⟩⟩
  · exact call_tuple_of pins s σ H _ us Q I r ⟨a, xs, rfl, .inr ⟨hq, q a H (Le.refl H) hq⟩⟩
def tRevS (K : PySem.W.Frag) (te : TE) : TE := fun σ H Q => te σ H fun x H1 => ∃ a xs, x = .ref a ∧ (SqL K H1 a xs ∨ SqT K H1 a xs) ∧
  ∀ p H2, Le H1 H2 → H1 p = none → (SqL K H1 a xs → H2 p = some (.lst xs.reverse)) → (SqT K H1 a xs → H2 p = some (.tup xs.reverse)) → (SqL K H2 p xs.reverse ∨ SqT K H2 p xs.reverse) → Q (.ref p) H2
theorem pe_revS {X : Cx} {e : Expr} {te : TE} {k : Nat} {p1 p2 p3 p4 : Pos} (he : PE X e te) : PE X (.Subscript e (.Slice none none (some (.UnaryOp .USub (.Constant (.int 1) k p1) p2)) p3) p4) (tRevS X.K te) := by
  refine ⟨fun pins s σ H Q I h => Subscript_ (thn (he.run pins s σ H _ I h) fun v s1 ⟨x, H1, I1, r1, q1⟩ => ?_)⟩
  obtain ⟨a, xs, rfl, hq, q⟩ := q1
  cases r1
  have back : PO X (some (.UnaryOp .USub (.Constant (.int 1) k p1) p2)) (tPart (tUn (rU fun i => .int (-i)) (tC (.int 1)))) := po_some (pe_un un_neg pe_int)
  refine wpAny_Slice (thn (po_none.run pins s1 σ H1 (fun o H2 => o = none ∧ H2 = H1) I1 ⟨rfl, rfl⟩) fun vl s2 ⟨l, H2, I2, pl, el, e2⟩ => ?_)
  subst el e2
  refine thn (po_none.run pins s2 σ H2 (fun o H3 => o = none ∧ H3 = H2) I2 ⟨rfl, rfl⟩) fun vu s3 ⟨u, H3, I3, pu, eu, e3⟩ => ?_
  subst eu e3
  refine thn (back.run pins s3 σ H3 (fun o H4 => o = some (-1) ∧ H4 = H3) I3 ⟨1, rfl, -1, rfl, rfl, rfl⟩) fun vs s4 ⟨o, H4, I4, ps, eo, e4⟩ => ?_
  subst eo e4
  have I5 : Inv X pins σ H4 { s4 with heap := s4.heap.push { cls := .type "slice", data := .fields #[vl, vu, vs] } } := I4.kept (t' := s4.toks) fun b ob z => Heap.get?_push_of_some _ z
  rcases hq with hq | hq
  · obtain ⟨its, r, ht, hz⟩ := I5.list hq
    have hl := r.length
    refine tail_any (ops := [.ref a, .ref s4.heap.objs.size]) ht.isList.typeIs (PySem.slot_list_getitem.lookup) ?_ (by with_unfolding_all rfl)
    refine wpAny_getItem_list_slice ht.isList (Heap.IsSliceOf.new _ vl vu vs) pl pu ps (by decide) ?_ (by rw [List.size_toArray]; omega)
    rw [PySem.W.krv_pick]
    refine ⟨.ref _, _, I5.laid (t' := s4.toks) (o := .lst xs.reverse) (fun b ob z => Heap.get?_push_of_some _ z) (Nat.le_refl _) ?_, rfl, q _ _ (Le.new (I5.hok.fresh (Nat.le_refl _))) (I5.hok.fresh (Nat.le_refl _)) (fun _ => upd_same) (fun z => (lt_not hq z I5).elim) (.inl (sql upd_same))⟩
    exact ⟨by rw [List.length_reverse]; exact hz, _, 0, r.reverse, Heap.get?_push_size _ rfl⟩
  · obtain ⟨its, r, ht, hz⟩ := I5.tuple hq
    have hl := r.length
    cases pl
    cases pu
    refine tail_any (ops := [.ref a, .ref s4.heap.objs.size]) ht.typeIs (PyProof.Rows.slot_tuple_getitem.lookup) ?_ (by with_unfolding_all rfl)
    refine rev_tup ht (Heap.IsSliceOf.new _ _ _ vs) ps (by omega) ?_
    refine ⟨.ref _, _, I5.laid (t' := s4.toks) (o := .tup xs.reverse) (fun b ob z => Heap.get?_push_of_some _ z) (Nat.le_refl _) ?_, rfl, q _ _ (Le.new (I5.hok.fresh (Nat.le_refl _))) (I5.hok.fresh (Nat.le_refl _)) (fun z => (lt_not z hq I5).elim) (fun _ => upd_same) (.inr (sqt upd_same))⟩
    exact ⟨by rw [List.length_reverse]; exact hz, _, r.reverse, ⟨_, Heap.get?_push_size _ rfl, rfl, _, rfl⟩⟩
end Wr

set_option Elab.async false
set_option linter.all false
set_option maxRecDepth 100000
set_option maxHeartbeats 2000000
namespace Wr
open PySem PySem.Spec PyProof.Rows L2
/-! ### a call while one list is set aside: the callee can't reach it -/
def aside (it : Addr) (H : Hp) : Hp := fun b => if b = it then none else H b
theorem aside_at {it : Addr} {H : Hp} : aside it H it = none := if_pos rfl
theorem aside_ne {it b : Addr} {H : Hp} (h : b ≠ it) : aside it H b = H b := if_neg h
def framed (sp : Sp) : Sp := fun vs H Q E => ∃ it us, H it = some (.lst us) ∧ sp vs (aside it H) (fun v H2 => H2 it = none → Q v (upd H2 it (.lst us))) E
theorem FnOk.frame {P : Program} {w : World} {K : PySem.W.Frag} {mg : Str → Option Value} {base : Heap} {k : Nat} {f : Addr} {fd : FuncData} {ps : List Str} {sp : Sp} (F : FnOk P w K mg base CX0 k f fd ps sp) : FnOk P w K mg base CX0 k f fd ps (framed sp) := by
  refine ⟨fun vs H Q E ⟨it, us, _, h⟩ => F.len _ _ _ _ h, fun A outer s H args us vs Q E hr e0 hb hv h => ?_⟩
  obtain ⟨it, xs, hit, h⟩ := h
  have nt : ∀ b o, H b = some o → o ≠ .lst xs → b ≠ it := fun b o e n z => by
    rw [z, hit] at e
    exact n (Option.some.inj e).symm
  have hok2 : HOk P w (aside it H) s.heap := fun b o e => by
    have nb : b ≠ it := fun z => by rw [z, aside_at] at e; cases e
    rw [aside_ne nb] at e
    refine (e0.hok b o e).stay (fun _ _ _ q => q) (fun c q => ?_) fun c ys q => ?_
    · rw [aside_ne (nt c _ q (by intro z; cases z))]
      exact q
    · rw [aside_ne (nt c _ q (by intro z; cases z))]
      exact q
  have e2 : Env0 P w K mg base A outer s (aside it H) := by
    refine ⟨e0.frames, e0.mod, fun b o e => ⟨(e0.bs b o e).1, ?_⟩, e0.bsz, e0.funs, fun b hb => ?_, hok2, e0.bare⟩
    · by_cases z : b = it
      · rw [z]; exact aside_at
      · rw [aside_ne z]; exact (e0.bs b o e).2
    · by_cases z : b = it
      · rw [z]; exact aside_at
      · rw [aside_ne z]; exact e0.frf b hb
  have itf : it ∉ frs outer := fun z => by
    have := e0.frf it z
    rw [hit] at this
    cases this
  refine codeAny_mono (F.run A outer s (aside it H) args us vs _ E hr e2 hb hv h) fun r s1 hr1 => ?_
  match r, hr1 with
  | .ok (.ret u), hr1 =>
    obtain ⟨v, H2, os, bare, un, hok', rv, q⟩ := hr1
    obtain ⟨zl, its, n, rl, gi⟩ := e0.hok it _ hit
    have free : H2 it = none := un.free it _ gi aside_at (by simp)
    have stays : s1.heap.get? it = _ := un.keep it _ gi aside_at itf (by simp)
    have back : ∀ b, H b = none → aside it H b = none := fun b e => by
      by_cases z : b = it
      · rw [z]; exact aside_at
      · rw [aside_ne z]; exact e
    have nit : ∀ b, H b = none → b ≠ it := fun b e z => by rw [z, hit] at e; cases e
    refine ⟨v, upd H2 it (.lst xs), os, bare, ⟨fun b o g e => un.keep b o g (back b e), fun b o g e => un.slot b o g (back b e), fun b o g e x => ?_, un.there, fun b ys e => ?_, fun b o u e => ?_, fun b qs e => ?_⟩, fun b o e => ?_, rv, q free⟩
    · rw [upd_ne (nit b e)]
      exact un.free b o g (back b e) x
    · have nb := nt b _ e (by intro z; cases z)
      rw [upd_ne nb]
      exact un.tups b ys (by rw [aside_ne nb]; exact e)
    · have nb := nt b _ e (by intro z; cases z)
      rw [upd_ne nb]
      exact un.frzs b o u (by rw [aside_ne nb]; exact e)
    · have nb := nt b _ e (by intro z; cases z)
      rw [upd_ne nb]
      exact un.tbls b qs (by rw [aside_ne nb]; exact e)
    · by_cases z : b = it
      · rw [z, upd_same] at e
        cases e
        rw [z]
        exact ⟨zl, its, n, rl, stays⟩
      · rw [upd_ne z] at e
        refine (hok' b o e).stay (fun _ _ _ g => g) (fun c g => ?_) fun c ys g => ?_
        · rw [upd_ne (ne_of_none g free)]
          exact g
        · rw [upd_ne (ne_of_none g free)]
          exact g
theorem Le.asideR {H H1 : Hp} {it : Addr} (l : Le H H1) (h : H it = none) : Le H (aside it H1) := by
  refine ⟨fun b o e n => ?_, fun P ⟨ps, e, t⟩ => ?_, fun b e => ?_⟩
  · rw [aside_ne (ne_of_none e h)]
    exact l.keep b o e n
  · obtain ⟨ps2, e2, t2⟩ := l.tab P ⟨ps, e, t⟩
    exact ⟨ps2, by rw [aside_ne (ne_of_none e h)]; exact e2, t2⟩
  · by_cases z : b = it
    · rw [z]; exact h
    · rw [aside_ne z] at e
      exact l.dom b e
end Wr

set_option Elab.async false
set_option linter.all false
set_option maxRecDepth 100000
set_option maxHeartbeats 2000000
namespace Wr
open PySem PySem.Spec PyProof.Rows L2
/-! ### the end, where some defs hold generator expressions -/
/-- what is asked of a code object's fields; P its table -/
def CodeVs (vs : Array Value) (P : Addr) : Prop := vs[11]? = some (.ref P) ∧ vs.getD 11 .none = .ref P ∧ (∃ z t, vs.getD 18 .none = .str z t) ∧ (∃ i t, vs.getD 7 .none = .int i t) ∧ (∃ b, vs.getD 9 .none = .bool b) ∧ ∃ i t, vs.getD 10 .none = .int i t
theorem code_hd {K : PySem.W.Frag} {h : Heap} {c P : Addr} {dd : Option Addr} {vs : Array Value} {sl : Array (Option Value)} (X : K.In h) (lc : K.lookup c = some ⟨.type "code", dd, .fields vs, sl⟩) (lv : CodeVs vs P) (lp : K.lookup P = none) : PySem.W.CodeHd h c P := by
  obtain ⟨v1, v2, ⟨z, t, v3⟩, ⟨i, t2, v4⟩, ⟨b, v5⟩, j, t3, v6⟩ := lv
  refine ⟨_, vs, z, t, i, t2, b, j, t3, X _ _ lc, rfl, rfl, v1, v2, v3, v4, v5, v6, fun e => ?_⟩
  rw [e, lp] at lc
  cases lc
theorem walk_gens {l : PySem.W.OpenLaw} {n k : Nat} {q : Program} {loose : List Str} {XP : (Str → Option Value) → Heap → Prop} {YP : World → Heap → Prop} {d : DefRec} {K : Params → PySem.W.Frag} {CX : World → CXT} {x : Str} (nms : List Str)
    (hn : l.most = some n) (hn2 : n ≤ sizeLine) (hdf : d.params.defaults = []) (hr : Room k callerA) (hrec : ∀ nm ∈ nms, ((recsOf q).any fun e => e.name == nm) = true) (hY : ∀ (w : World) (h : Heap), YP w h → (K w.params).In h)
    (F : ∀ (w : World) (mg : Str → Option Value) (fa : Addr) (h : Heap), (K w.params).In h → h.Ns mainGlobals mg → mg d.name = some (.ref fa) → (∀ nm ∈ nms, ∀ fb, mg nm = some (.ref fb) → LamX.OwnTab (K w.params) fb h) → LamX.LawAtS l w (K w.params) (CX w) k n x mg fa h)
    (hCX : ∀ (w : World) (H : Hp) (s : Shared) (e : Value) (s' : Shared), CX w [] H s (fun _ _ _ => False) e s' → False) : PySem.W.WalkO q loose XP YP l.row.toRowW d [] (fun f vs => PySem.call f vs) := by
  refine Att.attach_callB hn hdf fun w s0 s1 mg mb fa o pm cd doc a vs ns G Y ho hd hcd hmg hobj hints hlen hbits hg => ?_
  have KX := hY w _ Y
  have own : ∀ nm ∈ nms, ∀ fb, mg nm = some (.ref fb) → LamX.OwnTab (K w.params) fb s1.heap := by
    intro nm hm fb hfb c P o1 fd1 e dd vs1 sl k1 k2 k3 k4 k5
    obtain ⟨dL, hdm, hdn⟩ := List.any_eq_true.mp (hrec nm hm)
    have en : dL.name = nm := beq_iff_eq.mp hdn
    obtain ⟨a', o', fd', c', P', g1, g2, g3, g4, g5, g6⟩ := G.T.tab dL hdm
    rw [en, hfb] at g1
    cases g1
    rw [KX _ _ k1] at g2
    cases g2
    rw [k2] at g3
    cases g3
    rw [k3] at g4
    cases g4
    obtain ⟨⟨oc, vc, u1, _, u3, u4⟩, hP⟩ := g6
    rw [KX _ _ k4] at u1
    cases u1
    cases u3
    rw [k5] at u4
    cases u4
    exact hP
  obtain ⟨fd, cs, sp, hT, nT, C, hb, hsp, hF⟩ := F w mg fa _ KX G.T.g hmg own
  exact LamX.law_callTs KX G.T.g G.T.b G.T.builtins G.T.nolimit hg hT nT C G.T.bmain hobj hints (Nat.le_trans hlen hn2) hr hF hb (fun H hH hS => hsp H a ns hlen hbits hH hS) fun H e s' => hCX w H s1 e s'
end Wr

namespace Wr
open PySem PySem.Spec PyProof.Rows L2
def topS (i : Nat) : Stmt := PySem.Challenge.pw_wornrigs_k01_rig_values.main.body.getD i (.Pass ⟨0, 0, 0, 0⟩)
abbrev s_is_between : Stmt := topS 3
abbrev N_is_between : List Str := ["value", "low", "high"]
theorem sc_is_between : FnScope N_is_between ["value", "low", "high"] (defScope s_is_between) := ⟨rfl, rfl, rfl, by decide +kernel, rfl, by decide +kernel, by decide +kernel⟩
abbrev s_is_name : Stmt := topS 4
abbrev N_is_name : List Str := ["value"]
theorem sc_is_name : FnScope N_is_name ["value"] (defScope s_is_name) := ⟨rfl, rfl, rfl, by decide +kernel, rfl, by decide +kernel, by decide +kernel⟩
abbrev s_is_strand : Stmt := topS 5
abbrev N_is_strand : List Str := ["value", "name", "strength", "wear"]
theorem sc_is_strand : FnScope N_is_strand ["value"] (defScope s_is_strand) := ⟨rfl, rfl, rfl, by decide +kernel, rfl, by decide +kernel, by decide +kernel⟩
abbrev s_is_rig : Stmt := topS 6
abbrev N_is_rig : List Str := ["value", "names", "waiting", "part"]
theorem sc_is_rig : FnScope N_is_rig ["value"] (defScope s_is_rig) := ⟨rfl, rfl, rfl, by decide +kernel, rfl, by decide +kernel, by decide +kernel⟩
abbrev s__law_cell : Stmt := topS 8
abbrev N__law_cell : List Str := ["script", "index"]
theorem sc__law_cell : FnScope N__law_cell ["script", "index"] (defScope s__law_cell) := ⟨rfl, rfl, rfl, by decide +kernel, rfl, by decide +kernel, by decide +kernel⟩
abbrev s__law_digits : Stmt := topS 9
abbrev N__law_digits : List Str := ["script", "index", "count", "base", "primes", "cell", "rest", "digits", "k", "mixed"]
theorem sc__law_digits : FnScope N__law_digits ["script", "index", "count", "base"] (defScope s__law_digits) := ⟨rfl, rfl, rfl, by decide +kernel, rfl, by decide +kernel, by decide +kernel⟩
abbrev s__law_is_integer : Stmt := topS 10
abbrev N__law_is_integer : List Str := ["value", "low", "high"]
theorem sc__law_is_integer : FnScope N__law_is_integer ["value", "low", "high"] (defScope s__law_is_integer) := ⟨rfl, rfl, rfl, by decide +kernel, rfl, by decide +kernel, by decide +kernel⟩
abbrev s__law_same_bool : Stmt := topS 11
abbrev N__law_same_bool : List Str := ["result", "expected"]
theorem sc__law_same_bool : FnScope N__law_same_bool ["result", "expected"] (defScope s__law_same_bool) := ⟨rfl, rfl, rfl, by decide +kernel, rfl, by decide +kernel, by decide +kernel⟩
abbrev s__law_paths : Stmt := topS 12
abbrev N__law_paths : List Str := ["value", "paths", "index", "part", "path"]
theorem sc__law_paths : FnScope N__law_paths ["value"] (defScope s__law_paths) := ⟨rfl, rfl, rfl, by decide +kernel, rfl, by decide +kernel, by decide +kernel⟩
abbrev s__law_other_value : Stmt := topS 13
abbrev N__law_other_value : List Str := ["value", "digits", "options"]
theorem sc__law_other_value : FnScope N__law_other_value ["value", "digits"] (defScope s__law_other_value) := ⟨rfl, rfl, rfl, by decide +kernel, rfl, by decide +kernel, by decide +kernel⟩
abbrev s__law_moved_item : Stmt := topS 14
abbrev N__law_moved_item : List Str := ["items", "index", "digits", "target", "rest"]
theorem sc__law_moved_item : FnScope N__law_moved_item ["items", "index", "digits"] (defScope s__law_moved_item) := ⟨rfl, rfl, rfl, by decide +kernel, rfl, by decide +kernel, by decide +kernel⟩
abbrev s__law_change_at : Stmt := topS 15
abbrev N__law_change_at : List Str := ["value", "path", "digits", "items"]
theorem sc__law_change_at : FnScope N__law_change_at ["value", "path", "digits"] (defScope s__law_change_at) := ⟨rfl, rfl, rfl, by decide +kernel, rfl, by decide +kernel, by decide +kernel⟩
abbrev s__law_mutated : Stmt := topS 16
abbrev N__law_mutated : List Str := ["value", "digits", "paths"]
theorem sc__law_mutated : FnScope N__law_mutated ["value", "digits"] (defScope s__law_mutated) := ⟨rfl, rfl, rfl, by decide +kernel, rfl, by decide +kernel, by decide +kernel⟩
abbrev s__law_any_value : Stmt := topS 17
abbrev N__law_any_value : List Str := ["digits", "depth", "choice", "number", "parts", "k"]
theorem sc__law_any_value : FnScope N__law_any_value ["digits", "depth"] (defScope s__law_any_value) := ⟨rfl, rfl, rfl, by decide +kernel, rfl, by decide +kernel, by decide +kernel⟩
abbrev s__law_tree : Stmt := topS 18
abbrev N__law_tree : List Str := ["parts", "digits", "trees", "step", "count", "first", "last"]
theorem sc__law_tree : FnScope N__law_tree ["parts", "digits"] (defScope s__law_tree) := ⟨rfl, rfl, rfl, by decide +kernel, rfl, by decide +kernel, by decide +kernel⟩
abbrev s__law_rig : Stmt := topS 19
abbrev N__law_rig : List Str := ["digits", "limit", "count", "names", "leaves", "digit", "power", "wear"]
theorem sc__law_rig : FnScope N__law_rig ["digits", "limit"] (defScope s__law_rig) := ⟨rfl, rfl, rfl, by decide +kernel, rfl, by decide +kernel, by decide +kernel⟩
abbrev s__law_leaf_names : Stmt := topS 21
abbrev N__law_leaf_names : List Str := ["value", "invalid", "valid", "names", "child", "char"]
theorem sc__law_leaf_names : FnScope N__law_leaf_names ["value"] (defScope s__law_leaf_names) := ⟨rfl, rfl, rfl, by decide +kernel, rfl, by decide +kernel, by decide +kernel⟩
abbrev s__law_is_rig : Stmt := topS 22
abbrev N__law_is_rig : List Str := ["value", "names"]
theorem sc__law_is_rig : FnScope N__law_is_rig ["value"] (defScope s__law_is_rig) := ⟨rfl, rfl, rfl, by decide +kernel, rfl, by decide +kernel, by decide +kernel⟩
abbrev s_law : Stmt := topS 23
abbrev N_law : List Str := ["script", "row", "values", "odd", "strand", "index", "digits", "rig", "k", "mutated", "value", "char"]
theorem sc_law : FnScope N_law ["script"] (defScope s_law) := ⟨rfl, rfl, rfl, by decide +kernel, rfl, by decide +kernel, by decide +kernel⟩
structure Gx (K : PySem.W.Frag) (mg : Str → Option Value) where
  f_is_between : Addr
  fd_is_between : FuncData
  F_is_between : Fun K "is_between" "is_between" s_is_between f_is_between fd_is_between
  b_is_between : Binds K fd_is_between ["value", "low", "high"] []
  m_is_between : mg "is_between" = some (.ref f_is_between)
  f_is_name : Addr
  fd_is_name : FuncData
  F_is_name : Fun K "is_name" "is_name" s_is_name f_is_name fd_is_name
  b_is_name : Binds K fd_is_name ["value"] []
  m_is_name : mg "is_name" = some (.ref f_is_name)
  f_is_strand : Addr
  fd_is_strand : FuncData
  F_is_strand : Fun K "is_strand" "is_strand" s_is_strand f_is_strand fd_is_strand
  b_is_strand : Binds K fd_is_strand ["value"] []
  m_is_strand : mg "is_strand" = some (.ref f_is_strand)
  f_is_rig : Addr
  fd_is_rig : FuncData
  F_is_rig : Fun K "is_rig" "is_rig" s_is_rig f_is_rig fd_is_rig
  b_is_rig : Binds K fd_is_rig ["value"] []
  m_is_rig : mg "is_rig" = some (.ref f_is_rig)
  f__law_cell : Addr
  fd__law_cell : FuncData
  F__law_cell : Fun K "_law_cell" "_law_cell" s__law_cell f__law_cell fd__law_cell
  b__law_cell : Binds K fd__law_cell ["script", "index"] []
  m__law_cell : mg "_law_cell" = some (.ref f__law_cell)
  f__law_digits : Addr
  fd__law_digits : FuncData
  F__law_digits : Fun K "_law_digits" "_law_digits" s__law_digits f__law_digits fd__law_digits
  b__law_digits : Binds K fd__law_digits ["script", "index", "count", "base"] []
  m__law_digits : mg "_law_digits" = some (.ref f__law_digits)
  f__law_is_integer : Addr
  fd__law_is_integer : FuncData
  F__law_is_integer : Fun K "_law_is_integer" "_law_is_integer" s__law_is_integer f__law_is_integer fd__law_is_integer
  b__law_is_integer : Binds K fd__law_is_integer ["value", "low", "high"] []
  m__law_is_integer : mg "_law_is_integer" = some (.ref f__law_is_integer)
  f__law_same_bool : Addr
  fd__law_same_bool : FuncData
  F__law_same_bool : Fun K "_law_same_bool" "_law_same_bool" s__law_same_bool f__law_same_bool fd__law_same_bool
  b__law_same_bool : Binds K fd__law_same_bool ["result", "expected"] []
  m__law_same_bool : mg "_law_same_bool" = some (.ref f__law_same_bool)
  f__law_paths : Addr
  fd__law_paths : FuncData
  F__law_paths : Fun K "_law_paths" "_law_paths" s__law_paths f__law_paths fd__law_paths
  b__law_paths : Binds K fd__law_paths ["value"] []
  m__law_paths : mg "_law_paths" = some (.ref f__law_paths)
  f__law_other_value : Addr
  fd__law_other_value : FuncData
  F__law_other_value : Fun K "_law_other_value" "_law_other_value" s__law_other_value f__law_other_value fd__law_other_value
  b__law_other_value : Binds K fd__law_other_value ["value", "digits"] []
  m__law_other_value : mg "_law_other_value" = some (.ref f__law_other_value)
  f__law_moved_item : Addr
  fd__law_moved_item : FuncData
  F__law_moved_item : Fun K "_law_moved_item" "_law_moved_item" s__law_moved_item f__law_moved_item fd__law_moved_item
  b__law_moved_item : Binds K fd__law_moved_item ["items", "index", "digits"] []
  m__law_moved_item : mg "_law_moved_item" = some (.ref f__law_moved_item)
  f__law_change_at : Addr
  fd__law_change_at : FuncData
  F__law_change_at : Fun K "_law_change_at" "_law_change_at" s__law_change_at f__law_change_at fd__law_change_at
  b__law_change_at : Binds K fd__law_change_at ["value", "path", "digits"] []
  m__law_change_at : mg "_law_change_at" = some (.ref f__law_change_at)
  f__law_mutated : Addr
  fd__law_mutated : FuncData
  F__law_mutated : Fun K "_law_mutated" "_law_mutated" s__law_mutated f__law_mutated fd__law_mutated
  b__law_mutated : Binds K fd__law_mutated ["value", "digits"] []
  m__law_mutated : mg "_law_mutated" = some (.ref f__law_mutated)
  f__law_any_value : Addr
  fd__law_any_value : FuncData
  F__law_any_value : Fun K "_law_any_value" "_law_any_value" s__law_any_value f__law_any_value fd__law_any_value
  b__law_any_value : Binds K fd__law_any_value ["digits", "depth"] []
  m__law_any_value : mg "_law_any_value" = some (.ref f__law_any_value)
  f__law_tree : Addr
  fd__law_tree : FuncData
  F__law_tree : Fun K "_law_tree" "_law_tree" s__law_tree f__law_tree fd__law_tree
  b__law_tree : Binds K fd__law_tree ["parts", "digits"] []
  m__law_tree : mg "_law_tree" = some (.ref f__law_tree)
  f__law_rig : Addr
  fd__law_rig : FuncData
  F__law_rig : Fun K "_law_rig" "_law_rig" s__law_rig f__law_rig fd__law_rig
  b__law_rig : Binds K fd__law_rig ["digits", "limit"] []
  m__law_rig : mg "_law_rig" = some (.ref f__law_rig)
  f__law_leaf_names : Addr
  fd__law_leaf_names : FuncData
  F__law_leaf_names : Fun K "_law_leaf_names" "_law_leaf_names" s__law_leaf_names f__law_leaf_names fd__law_leaf_names
  b__law_leaf_names : Binds K fd__law_leaf_names ["value"] []
  m__law_leaf_names : mg "_law_leaf_names" = some (.ref f__law_leaf_names)
  f__law_is_rig : Addr
  fd__law_is_rig : FuncData
  F__law_is_rig : Fun K "_law_is_rig" "_law_is_rig" s__law_is_rig f__law_is_rig fd__law_is_rig
  b__law_is_rig : Binds K fd__law_is_rig ["value"] []
  m__law_is_rig : mg "_law_is_rig" = some (.ref f__law_is_rig)
  f_law : Addr
  fd_law : FuncData
  F_law : Fun K "law" "law" s_law f_law fd_law
  b_law : Binds K fd_law ["script"] []
  m_law : mg "law" = some (.ref f_law)
  c_is_name : Addr
  p_is_name : Addr
  FC_is_name : FunC K "is_name" "is_name" s_is_name f_is_name fd_is_name c_is_name
  t_MOST_STRANDS : Tok
  c_MOST_STRANDS : mg "MOST_STRANDS" = some (.int 6 t_MOST_STRANDS)
  t_LARGEST_WEAR : Tok
  c_LARGEST_WEAR : mg "LARGEST_WEAR" = some (.int 20 t_LARGEST_WEAR)
  all : mg "all" = none
  bool : mg "bool" = none
  enumerate : mg "enumerate" = none
  int : mg "int" = none
  isinstance : mg "isinstance" = none
  len : mg "len" = none
  list : mg "list" = none
  min : mg "min" = none
  range : mg "range" = none
  set : mg "set" = none
  str : mg "str" = none
  tuple : mg "tuple" = none
end Wr

set_option Elab.async false
set_option linter.all false
set_option maxRecDepth 100000
set_option maxHeartbeats 2000000
namespace Wr
open PySem PySem.Spec PyProof.Rows L2
section
variable {P : Program} {w : World} {K : PySem.W.Frag} {mg : Str → Option Value} {base : Heap}
/-! ### _law_cell: some int -/
def spCell (K : PySem.W.Frag) : Sp := fun vs H Q _ => ∃ (a : Addr) (ns : List Int) (i : Int), vs = [.ref a, .int i] ∧ SqL K H a (ns.map V.int) ∧ ns.length ≤ 63 ∧ 0 ≤ i ∧ i ≤ 1000 ∧ ∀ n : Int, Q (.int n) H
theorem ok_cell (G : Gx K mg) (k : Nat) : FnOk P w K mg base CX0 (k + 1) G.f__law_cell G.fd__law_cell ["script", "index"] (spCell K) := by
  refine G.F__law_cell.ok sc__law_cell (fun vs H Q E h => ?_) (fun cdv A outer s H vs Q E hr h => ?_)
  · obtain ⟨a, ns, i, rfl, _⟩ := h
    rfl
  obtain ⟨a, ns, i, rfl, hS, h63, h0, h1, q⟩ := h
  refine ⟨_, (pss_cons (ps_if (pt_cmpR op_lt (pv 1) (pe_callB call_len_seq (by rfl) G.len PySem.boot_len (pa_cons (pv 0) pa_nil)) (nomark _)) (pss_one (ps_ret (pe_ix ix_list (pv 0) (pv 1) (fun _ _ => rfl)))) pss_nil)
    (pss_cons (ps_if (pt_cmpR op_eq (pe_callB call_len_seq (by rfl) G.len PySem.boot_len (pa_cons (pv 0) pa_nil)) pe_int (nomark _)) (pss_one (ps_ret (pe_op op_add (pe_op op_mul pe_int (pv 1)) pe_int))) pss_nil)
    (pss_one (ps_ret (pe_op op_add (pe_op op_mod (pe_ix ix_list (pv 0) (pe_op op_mod (pv 1) (pe_callB call_len_seq (by rfl) G.len PySem.boot_len (pa_cons (pv 0) pa_nil))) (fun _ _ => rfl)) pe_int) (pe_op op_mul pe_int (pv 1))))))), ?_⟩
  have hl : (ns.map V.int).length = ns.length := List.length_map _
  refine ⟨_, rfl, _, rfl, a, _, rfl, .inl hS, _, _, rfl, rfl, _, rfl, ?_⟩
  refine ite2 (fun c => ?_) (fun c => ?_)
  · have c' : i < (((ns.map V.int).length : Nat) : Int) := of_decide_eq_true c
    rw [hl] at c'
    obtain ⟨n, _, _, hn⟩ := atI_ints h0 c'
    exact ⟨_, rfl, _, rfl, a, _, _, _, rfl, rfl, hS, hn, q _⟩
  · refine ⟨_, rfl, a, _, rfl, .inl hS, rfl, _, rfl, ?_⟩
    refine ite2 (fun c => ?_) (fun c => ?_)
    · exact ⟨_, rfl, _, _, rfl, rfl, .inl ⟨by decide, by decide⟩, _, _, rfl, rfl, q _⟩
    · have c' : ¬ (V.int (((ns.map V.int).length : Nat) : Int) = V.int 0) := fun e => c (decide_eq_true e)
      rw [hl] at c'
      have hp : (0 : Int) < (((ns.map V.int).length : Nat) : Int) := by
        rw [hl]
        have : (ns.length : Int) ≠ 0 := fun e => c' (by rw [e])
        omega
      obtain ⟨n, _, _, hn⟩ := atI_ints (ns := ns) (i := i % (((ns.map V.int).length : Nat) : Int)) (Int.emod_nonneg _ (by omega)) (by
        have := Int.emod_lt_of_pos i hp
        rw [hl] at this ⊢
        exact this)
      exact ⟨_, rfl, _, rfl, _, rfl, a, _, rfl, .inl hS, _, _, rfl, rfl, hp, a, _, _, _, rfl, rfl, hS, hn, _, _, rfl, rfl, (by decide : (0 : Int) < 1000003), _, rfl, _, _, rfl, rfl, .inl ⟨by decide, by decide⟩, _, _, rfl, rfl, q _⟩
end
end Wr

set_option Elab.async false
set_option linter.all false
set_option maxRecDepth 100000
set_option maxHeartbeats 2000000
namespace Wr
open PySem PySem.Spec PyProof.Rows L2
/-! ### _law_digits: a new list of so many digits below the base -/
def primesL : List Int := [2147483647, 2147483629, 2147483587, 2147483579, 2147483563, 2147483549, 2147483543, 2147483497]
theorem prime_mem : ∀ p ∈ primesL, 0 < p ∧ p < 2147483648 := by decide
theorem prime_at {i : Int} (h0 : 0 ≤ i) (h1 : i < 8) : ∃ p : Int, atI (primesL.map V.int) i = some (.int p) ∧ 0 < p ∧ p < 2147483648 := by
  obtain ⟨p, hm, _, ha⟩ := atI_ints (ns := primesL) h0 h1
  exact ⟨p, ha, prime_mem p hm⟩
section
variable {P : Program} {w : World} {K : PySem.W.Frag} {mg : Str → Option Value} {base : Heap}
def spDigits (K : PySem.W.Frag) : Sp := fun vs H Q _ => ∃ (a : Addr) (ns : List Int) (i c b : Int), vs = [.ref a, .int i, .int c, .int b] ∧ SqL K H a (ns.map V.int) ∧ ns.length ≤ 63 ∧ 0 ≤ i ∧ i ≤ 1000 ∧ 0 ≤ c ∧ c ≤ 1000 ∧ 0 < b ∧ b < 1073741824 ∧
  ∀ (ds : List Int) (p : Addr) (H' : Hp), ds.length = c.toNat → (∀ d ∈ ds, 0 ≤ d ∧ d < b) → Le H H' → H p = none → H' p = some (.lst (ds.map V.int)) → Q (.ref p) H'
theorem ok_digits (G : Gx K mg) (k : Nat) : FnOk P w K mg base CX0 (k + 2) G.f__law_digits G.fd__law_digits ["script", "index", "count", "base"] (spDigits K) := by
  have G__law_cell : FnOk P w K mg base CX0 (k + 1) G.f__law_cell G.fd__law_cell ["script", "index"] (spCell K) := ok_cell G k
  refine G.F__law_digits.ok sc__law_digits (fun vs H Q E h => ?_) (fun cdv A outer s H vs Q E hr h => ?_)
  · obtain ⟨a, ns, i, c, b, rfl, _⟩ := h
    rfl
  obtain ⟨a, ns, x, c, b, rfl, hS, h63, h0, h1, hc0, hc1, hb0, hb1, q⟩ := h
  refine ⟨_, (pss_cons (ps_set (i := 4) sc__law_digits.nd rfl (.inl rfl) (pe_tup (pa_cons pe_int (pa_cons pe_int (pa_cons pe_int (pa_cons pe_int (pa_cons pe_int (pa_cons pe_int (pa_cons pe_int (pa_cons pe_int pa_nil))))))))))
    (pss_cons (ps_set (i := 5) sc__law_digits.nd rfl (.inl rfl) (pe_call G__law_cell hr (by rfl) G.m__law_cell G.F__law_cell.kp G.b__law_cell .nil pass0 (pa_cons (pv 0) (pa_cons (pv 1) pa_nil))))
    (Evl.pss_cut (ps_set (i := 6) sc__law_digits.nd rfl (.inl rfl) (pe_ifExp (pt_cmpR op_ge (pv 5) (pe_op op_pow pe_int pe_int) (nomark _)) (pv 5) pe_int))
    (pss_cons (ps_set (i := 7) sc__law_digits.nd rfl (.inl rfl) (pe_lst pa_nil))
    (pss_cons (ps_for PassesOwn.never rfl (pi_range1 (by rfl) G.range (pa_cons (pv 2) pa_nil)) (pg_name (i := 8) sc__law_digits.nd rfl (.inl rfl))
      (pss_cons (ps_set (i := 9) sc__law_digits.nd rfl (.inl rfl) (pe_op op_mul (pe_op op_mod (pv 5) (pe_ix ix_tup (pv 4) (pe_op op_mod (pv 8) pe_int) (fun _ _ => rfl))) (pe_op op_add pe_int (pe_op op_mul (pe_op op_mul pe_int (pv 8)) (pv 8)))))
    (pss_cons (ps_set (i := 9) sc__law_digits.nd rfl (.inl rfl) (pe_op op_add (pe_op op_add (pv 9) (pe_op op_mul (pe_op op_mul pe_int (pe_op op_add (pv 8) pe_int)) (pe_op op_add (pv 8) pe_int))) (pe_op op_mul pe_int (pv 1))))
    (pss_cons (ps_set (i := 9) sc__law_digits.nd rfl (.inl rfl) (pe_op op_mod (pv 9) (pe_ix ix_tup (pv 4) (pe_op op_mod (pe_op op_add (pe_op op_mul pe_int (pv 8)) (pv 1)) pe_int) (fun _ _ => rfl))))
    (pss_cons (ps_set (i := 9) sc__law_digits.nd rfl (.inl rfl) (pe_op op_mod (pe_op op_mul (pe_op op_mul (pv 9) (pv 9)) (pv 9)) (pe_ix ix_tup (pv 4) (pe_op op_mod (pe_op op_add (pv 8) pe_int) pe_int) (fun _ _ => rfl))))
    (Evl.pss_cut (ps_if (pt_cmpR op_gt (pv 6) pe_int (nomark _)) (pss_one (ps_set (i := 9) sc__law_digits.nd rfl (.inl rfl) (pv 6))) pss_nil)
    (pss_cons (ps_expr (pe_bm PySem.F.plainAttrs_list PySem.F.slot_list_append PySem.F.type_list_append mt_append (pv 7) (pa_cons (pe_op op_mod (pv 9) (pv 3)) pa_nil)))
    (pss_one (ps_set (i := 6) sc__law_digits.nd rfl (.inl rfl) (pe_op op_fdiv (pv 6) (pv 3)))))))))))
    (pss_one (ps_ret (pv 7)))))))), ?_⟩
  refine ⟨(by decide : 8 ≤ sizeLine), fun t ht => ?_⟩
  have l1 : Le H (upd H t (.tup (primesL.map V.int))) := Le.new ht
  refine ⟨_, rfl, _, rfl, a, ns, x, rfl, l1.sql hS, h63, h0, h1, fun cell => ?_⟩
  refine ⟨fun σ' H' => ∃ r : Int, σ' = [some (.ref a), some (.int x), some (.int c), some (.int b), some (.ref t), some (.int cell), some (.int r), none, none, none] ∧ H' = upd H t (.tup (primesL.map V.int)), ?_, fun σ' H' hM => ?_⟩
  · refine ⟨_, rfl, _, _, rfl, rfl, ⟨by decide, by decide, by decide⟩, _, _, rfl, rfl, _, rfl, ?_⟩
    refine ite2 (fun _ => ?_) (fun _ => ?_)
    · exact ⟨_, rfl, _, rfl, rfl⟩
    · exact ⟨_, rfl, rfl⟩
  obtain ⟨r, rfl, rfl⟩ := hM
  refine ⟨Nat.zero_le _, fun p hp => ?_⟩
  have hp0 : H p = none := l1.dom _ hp
  have hpt : p ≠ t := fun e => by
    rw [e, upd_same] at hp
    cases hp
  refine ⟨_, rfl, c, rfl, by omega, by omega, ?_⟩
  refine for_range (lo := 0) (n := c.toNat) (fun i σ' H' => ∃ (r : Int) (y8 y9 : Option V) (ds : List Int), σ' = [some (.ref a), some (.int x), some (.int c), some (.int b), some (.ref t), some (.int cell), some (.int r), some (.ref p), y8, y9] ∧ ds.length = i ∧ (∀ d ∈ ds, 0 ≤ d ∧ d < b) ∧ Le H H' ∧ H' t = some (.tup (primesL.map V.int)) ∧ H' p = some (.lst (ds.map V.int))) ?_ ?_ ?_
  · exact ⟨r, none, none, [], rfl, rfl, by simp, l1.trans (Le.new hp), by rw [upd_ne hpt.symm]; exact upd_same, upd_same⟩
  · rintro i σ' H' hi ⟨r, y8, y9, ds, rfl, hd, hds, hl, h't, h'p⟩
    have hi0 : (0 : Int) ≤ 0 + (i : Int) := by omega
    have hi1 : (0 : Int) + (i : Int) ≤ 1000 := by omega
    generalize ek : (0 : Int) + (i : Int) = j at hi0 hi1
    obtain ⟨p1, e1, b1, b1'⟩ := prime_at (i := j % 8) (by omega) (by omega)
    obtain ⟨p2, e2, b2, b2'⟩ := prime_at (i := (3 * j + x) % 8) (by omega) (by omega)
    obtain ⟨p3, e3, b3, b3'⟩ := prime_at (i := (j + 5) % 8) (by omega) (by omega)
    have m1 := Int.emod_nonneg cell (show p1 ≠ 0 by omega)
    have m1' := Int.emod_lt_of_pos cell b1
    refine ⟨_, rfl, _, rfl, _, rfl, _, _, rfl, rfl, (by decide : (0 : Int) < 8), t, _, _, _, rfl, rfl, sqt h't, e1, _, _, rfl, rfl, b1, ?_⟩
    refine ⟨_, rfl, _, _, rfl, rfl, .inl ⟨by decide, by decide⟩, _, rfl, _, _, rfl, rfl, .inr ⟨by omega, by omega⟩, _, _, rfl, rfl, _, _, rfl, rfl, .inl ⟨by omega, by omega⟩, ?_⟩
    refine ⟨_, rfl, _, rfl, _, _, rfl, rfl, _, _, rfl, rfl, .inl ⟨by decide, by decide⟩, _, rfl, _, _, rfl, rfl, _, _, rfl, rfl, .inr ⟨by omega, by omega⟩, _, _, rfl, rfl, _, rfl, _, _, rfl, rfl, .inl ⟨by decide, by decide⟩, _, _, rfl, rfl, ?_⟩
    refine ⟨_, rfl, _, rfl, _, rfl, _, _, rfl, rfl, .inl ⟨by decide, by decide⟩, _, rfl, _, _, rfl, rfl, _, _, rfl, rfl, (by decide : (0 : Int) < 8), t, _, _, _, rfl, rfl, sqt h't, e2, _, _, rfl, rfl, b2, ?_⟩
    generalize ez : (cell % p1 * (48271 + 2 * j * j) + 7919 * (j + 1) * (j + 1) + 104729 * x) % p2 = z
    have z0 : 0 ≤ z := by rw [← ez]; exact Int.emod_nonneg _ (by omega)
    have z1 : z < p2 := by rw [← ez]; exact Int.emod_lt_of_pos _ b2
    refine ⟨_, rfl, _, rfl, _, _, rfl, rfl, .inl ⟨by omega, by omega⟩, _, rfl, _, _, rfl, rfl, .inr ⟨by omega, by omega⟩, _, rfl, _, rfl, _, _, rfl, rfl, _, _, rfl, rfl, (by decide : (0 : Int) < 8), t, _, _, _, rfl, rfl, sqt h't, e3, _, _, rfl, rfl, b3, ?_⟩
    refine ⟨fun σ2 H2 => ∃ m : Int, σ2 = [some (.ref a), some (.int x), some (.int c), some (.int b), some (.ref t), some (.int cell), some (.int r), some (.ref p), some (.int j), some (.int m)] ∧ H2 = H', ?_, fun σ2 H2 hM => ?_⟩
    · refine ⟨_, rfl, _, _, rfl, rfl, _, rfl, ite2 (fun _ => ?_) (fun _ => ?_)⟩
      · exact ⟨_, rfl, _, rfl, rfl⟩
      · exact ⟨_, rfl, rfl⟩
    obtain ⟨m, rfl, rfl⟩ := hM
    refine ⟨_, rfl, .inl ⟨rfl, _, sql h'p⟩, _, rfl, _, rfl, _, _, rfl, rfl, hb0, p, _, _, rfl, rfl, h'p, szlt (by rw [List.length_map]; omega), ?_⟩
    refine ⟨_, rfl, _, rfl, _, _, rfl, rfl, ⟨hb0, hb1⟩, ?_⟩
    refine ⟨_, _, _, ds ++ [m % b], rfl, by rw [List.length_append, hd]; rfl, fun d hdm => ?_, hl.mut hp0, by rw [upd_ne hpt.symm]; exact h't, by rw [upd_same, List.map_append]; rfl⟩
    rcases List.mem_append.mp hdm with hdm | hdm
    · exact hds d hdm
    · rw [List.mem_singleton.mp hdm]
      exact ⟨Int.emod_nonneg _ (by omega), Int.emod_lt_of_pos _ hb0⟩
  · rintro σ' H' ⟨r, y8, y9, ds, rfl, hd, hds, hl, h't, h'p⟩
    exact ⟨_, rfl, q ds p H' hd hds hl hp0 h'p⟩
end
end Wr

set_option Elab.async false
set_option linter.all false
set_option maxRecDepth 100000
set_option maxHeartbeats 2000000
namespace Wr
open PySem PySem.Spec PyProof.Rows L2
/-! ### trees -/
inductive T where
  | leaf (n : Str) (p w : Int)
  | node (ts : List T)
mutual
def T.data : T → PyData
  | .leaf n p w => .tuple [.str n, .int p, .int w]
  | .node ts => .tuple (T.dataL ts)
def T.dataL : List T → List PyData
  | [] => []
  | t :: r => t.data :: T.dataL r
end
mutual
def T.leaves : T → List (Str × Int × Int)
  | .leaf n p w => [(n, p, w)]
  | .node ts => T.leavesL ts
def T.leavesL : List T → List (Str × Int × Int)
  | [] => []
  | t :: r => t.leaves ++ T.leavesL r
end
mutual
def T.Ok : T → Prop
  | .leaf _ _ _ => True
  | .node ts => 2 ≤ ts.length ∧ T.OkL ts
def T.OkL : List T → Prop
  | [] => True
  | t :: r => t.Ok ∧ T.OkL r
end
theorem T.dataL_map : ∀ ts : List T, T.dataL ts = ts.map T.data
  | [] => rfl
  | t :: r => by rw [T.dataL, T.dataL_map r, List.map_cons]
theorem T.leavesL_flat : ∀ ts : List T, T.leavesL ts = ts.flatMap T.leaves
  | [] => rfl
  | t :: r => by rw [T.leavesL, T.leavesL_flat r, List.flatMap_cons]
theorem T.okL_all : ∀ {ts : List T}, T.OkL ts ↔ ∀ t ∈ ts, t.Ok
  | [] => ⟨fun _ t h => absurd h (by simp), fun _ => trivial⟩
  | t :: r => by
    rw [T.OkL, T.okL_all (ts := r)]
    constructor
    · intro ⟨a, b⟩ u hu
      rcases List.mem_cons.mp hu with e | e
      · rw [e]; exact a
      · exact b u e
    · exact fun h => ⟨h t (List.mem_cons_self ..), fun u hu => h u (List.mem_cons_of_mem _ hu)⟩
theorem T.leavesL_append (xs ys : List T) : T.leavesL (xs ++ ys) = T.leavesL xs ++ T.leavesL ys := by
  rw [T.leavesL_flat, T.leavesL_flat, T.leavesL_flat, List.flatMap_append]
/-! ### lists of data -/
section
variable {K : PySem.W.Frag} {H : Hp}
theorem dpAll_length : ∀ {vs : List V} {ds : List PyData}, DpAll K H vs ds → vs.length = ds.length
  | _, _, .nil => rfl
  | _, _, .cons _ r => by rw [List.length_cons, List.length_cons, dpAll_length r]
theorem dpAll_append : ∀ {vs us : List V} {ds es : List PyData}, DpAll K H vs ds → DpAll K H us es → DpAll K H (vs ++ us) (ds ++ es)
  | _, _, _, _, .nil, s => s
  | _, _, _, _, .cons h r, s => .cons h (dpAll_append r s)
theorem dpAll_take : ∀ (n : Nat) {vs : List V} {ds : List PyData}, DpAll K H vs ds → DpAll K H (vs.take n) (ds.take n)
  | 0, _, _, _ => .nil
  | _ + 1, _, _, .nil => .nil
  | n + 1, _, _, .cons h r => .cons h (dpAll_take n r)
theorem dpAll_drop : ∀ (n : Nat) {vs : List V} {ds : List PyData}, DpAll K H vs ds → DpAll K H (vs.drop n) (ds.drop n)
  | 0, _, _, r => r
  | _ + 1, _, _, .nil => .nil
  | n + 1, _, _, .cons _ r => dpAll_drop n r
theorem dpAll_get : ∀ {vs : List V} {ds : List PyData} {i : Nat} {d : PyData}, DpAll K H vs ds → ds[i]? = some d → ∃ v, vs[i]? = some v ∧ Dp K H v d
  | _, _, _, _, .nil, e => by simp at e
  | _, _, 0, d, .cons h r, e => by
    cases e
    exact ⟨_, rfl, h⟩
  | _, _, i + 1, d, .cons h r, e => dpAll_get (i := i) r e
theorem dpAll_getV : ∀ {vs : List V} {ds : List PyData} {i : Nat} {v : V}, DpAll K H vs ds → vs[i]? = some v → ∃ d, ds[i]? = some d ∧ Dp K H v d
  | _, _, _, _, .nil, e => by simp at e
  | _, _, 0, d, .cons h r, e => by
    cases e
    exact ⟨_, rfl, h⟩
  | _, _, i + 1, d, .cons h r, e => dpAll_getV (i := i) r e
end
/-! ### slices -/
theorem cut_to {xs : List V} {f : Int} (h0 : 0 ≤ f) : cutV xs none (some f) = xs.take f.toNat := by
  obtain ⟨n, rfl⟩ := Int.eq_ofNat_of_zero_le h0
  unfold cutV
  rw [HT.sIx_none, HT.sIx_nat, List.drop_zero, Nat.sub_zero, Int.toNat_natCast]
  by_cases h : n ≤ xs.length
  · rw [Nat.min_eq_left h]
  · rw [Nat.min_eq_right (by omega), List.take_of_length_le (Nat.le_refl _), List.take_of_length_le (by omega)]
theorem cut_from {xs : List V} {f : Int} (h0 : 0 ≤ f) : cutV xs (some f) none = xs.drop f.toNat := by
  obtain ⟨n, rfl⟩ := Int.eq_ofNat_of_zero_le h0
  unfold cutV
  rw [HT.sIx_none, HT.sIx_nat, Int.toNat_natCast]
  by_cases h : n ≤ xs.length
  · rw [Nat.min_eq_left h]
    exact List.take_of_length_le (by rw [List.length_drop]; omega)
  · rw [Nat.min_eq_right (by omega), List.drop_eq_nil_of_le (by omega), List.drop_eq_nil_of_le (by omega)]
    simp
theorem cut_mid {xs : List V} {f l : Int} (h0 : 0 ≤ f) (h1 : f ≤ l) : cutV xs (some f) (some l) = (xs.drop f.toNat).take (l.toNat - f.toNat) := by
  obtain ⟨n, rfl⟩ := Int.eq_ofNat_of_zero_le h0
  obtain ⟨m, rfl⟩ := Int.eq_ofNat_of_zero_le (show 0 ≤ l by omega)
  unfold cutV
  rw [HT.sIx_nat, HT.sIx_nat, Int.toNat_natCast, Int.toNat_natCast]
  by_cases h : n ≤ xs.length
  · rw [Nat.min_eq_left h]
    by_cases h2 : m ≤ xs.length
    · rw [Nat.min_eq_left h2]
    · rw [Nat.min_eq_right (by omega), List.take_of_length_le (by rw [List.length_drop]; omega), List.take_of_length_le (by rw [List.length_drop]; omega)]
  · rw [Nat.min_eq_right (by omega), List.drop_eq_nil_of_le (by omega), List.drop_eq_nil_of_le (by omega)]
    simp
/-- the digits: ints that are not negative -/
def Nn (ds : List Int) : Prop := ∀ d ∈ ds, 0 ≤ d
theorem nn_at {ds : List Int} (h : Nn ds) {i : Int} (h0 : 0 ≤ i) (h1 : i < ds.length) : ∃ n, 0 ≤ n ∧ n ∈ ds ∧ atI (ds.map V.int) i = some (.int n) := by
  obtain ⟨n, hm, _, ha⟩ := atI_ints h0 h1
  exact ⟨n, h n hm, hm, ha⟩
theorem mod_at {ds : List Int} (h : Nn ds) (hl : 0 < ds.length) {i : Int} : ∃ n, 0 ≤ n ∧ n ∈ ds ∧ atI (ds.map V.int) (i % (((ds.map V.int).length : Nat) : Int)) = some (.int n) := by
  rw [List.length_map]
  exact nn_at h (Int.emod_nonneg _ (by omega)) (Int.emod_lt_of_pos _ (by omega))
section
variable {P : Program} {w : World} {K : PySem.W.Frag} {mg : Str → Option Value} {base : Heap}
def spTree (K : PySem.W.Frag) : Sp := fun vs H Q _ => ∃ (a g : Addr) (us : List V) (ts : List T) (ds : List Int), vs = [.ref a, .ref g] ∧ SqL K H a us ∧ DpAll K H us (T.dataL ts) ∧ 0 < ts.length ∧ ts.length ≤ 1000 ∧ T.OkL ts ∧
  SqL K H g (ds.map V.int) ∧ Nn ds ∧ 0 < ds.length ∧
  ∀ (t : T) (v : V) (H' : Hp), t.Ok → t.leaves = T.leavesL ts → Dp K H' v t.data → Le H H' → Q v H'
def treeW (K : PySem.W.Frag) (H : Hp) (a g : Addr) (ts : List T) (m : Nat) (σ' : L2.St) (H' : Hp) : Prop := ∃ (tr : Addr) (st : Int) (y4 y5 y6 : Option V) (us' : List V) (ts' : List T), σ' = [some (.ref a), some (.ref g), some (.ref tr), some (.int st), y4, y5, y6] ∧ 0 ≤ st ∧ m = ts'.length ∧ 0 < ts'.length ∧ ts'.length ≤ 1000 ∧ T.OkL ts' ∧ T.leavesL ts' = T.leavesL ts ∧ H' tr = some (.lst us') ∧ DpAll K H' us' (T.dataL ts') ∧ Le H H'
/-- one turn, in lists of trees -/
theorem tree_turn {ts : List T} {f l : Nat} (h1 : f + 2 ≤ l) (h2 : l ≤ ts.length) (ok : T.OkL ts) :
    (ts.take f ++ [T.node ((ts.drop f).take (l - f))] ++ ts.drop l).length < ts.length ∧ 0 < (ts.take f ++ [T.node ((ts.drop f).take (l - f))] ++ ts.drop l).length ∧ T.OkL (ts.take f ++ [T.node ((ts.drop f).take (l - f))] ++ ts.drop l) ∧
    T.leavesL (ts.take f ++ [T.node ((ts.drop f).take (l - f))] ++ ts.drop l) = T.leavesL ts := by
  refine ⟨?_, ?_, ?_, ?_⟩
  · simp only [List.length_append, List.length_take, List.length_drop, List.length_singleton]
    omega
  · simp only [List.length_append, List.length_singleton]
    omega
  · rw [T.okL_all] at ok ⊢
    intro t ht
    rcases List.mem_append.mp ht with ht | ht
    · rcases List.mem_append.mp ht with ht | ht
      · exact ok t (List.mem_of_mem_take ht)
      · rw [List.mem_singleton.mp ht, T.Ok, T.okL_all]
        refine ⟨?_, fun u hu => ok u (List.mem_of_mem_drop (List.mem_of_mem_take hu))⟩
        rw [List.length_take, List.length_drop]
        omega
    · exact ok t (List.mem_of_mem_drop ht)
  · rw [T.leavesL_append, T.leavesL_append]
    show T.leavesL (ts.take f) ++ ((T.node ((ts.drop f).take (l - f))).leaves ++ T.leavesL []) ++ _ = _
    rw [T.leaves, T.leavesL, List.append_nil, ← T.leavesL_append, ← T.leavesL_append]
    congr 1
    rw [List.append_assoc]
    have e : (ts.drop f).take (l - f) ++ ts.drop l = ts.drop f := by
      have e2 : ts.drop l = (ts.drop f).drop (l - f) := by rw [List.drop_drop]; congr 1; omega
      rw [e2, List.take_append_drop]
    rw [e, List.take_append_drop]
theorem ok_tree (G : Gx K mg) (k : Nat) : FnOk P w K mg base CX0 (k + 1) G.f__law_tree G.fd__law_tree ["parts", "digits"] (spTree K) := by
  refine G.F__law_tree.ok sc__law_tree (fun vs H Q E h => ?_) (fun cdv A outer s H vs Q E hr h => ?_)
  · obtain ⟨a, g, us, ts, ds, rfl, _⟩ := h
    rfl
  obtain ⟨a, g, us, ts, ds, rfl, hA, hAll, h1, h2, hOk, hG, hnn, hd0, q⟩ := h
  refine ⟨_, (pss_cons (ps_par (i := 2) (j := 3) (by rfl) sc__law_tree.nd rfl rfl (by decide) rfl rfl (pa_cons (pe_callTy call_list_of (by rfl) G.list (by decide +kernel) (pa_cons (pv 0) pa_nil)) (pa_cons pe_int pa_nil)) (by rfl))
    (pss_cons (ps_while PassesOwn.never (pt_cmpR op_gt (pe_callB call_len_seq (by rfl) G.len PySem.boot_len (pa_cons (pv 2) pa_nil)) pe_int (nomark _)) (pss_cons (ps_set (i := 4) sc__law_tree.nd rfl (.inl rfl) (pe_callB (call_min2 rfl) (by rfl) G.min (by decide +kernel) (pa_cons (pe_callB call_len_seq (by rfl) G.len PySem.boot_len (pa_cons (pv 2) pa_nil)) (pa_cons (pe_op op_add pe_int (pe_op op_mod (pe_ix ix_list (pv 1) (pe_op op_mod (pv 3) (pe_callB call_len_seq (by rfl) G.len PySem.boot_len (pa_cons (pv 1) pa_nil))) (fun _ _ => rfl)) (pe_ix ix_list (pe_lst (pa_cons pe_int (pa_cons pe_int (pa_cons pe_int pa_nil)))) (pe_op op_mod (pe_ix ix_list (pv 1) pe_int (fun _ _ => rfl)) pe_int) (fun _ _ => rfl)))) pa_nil))))
    (pss_cons (ps_set (i := 5) sc__law_tree.nd rfl (.inl rfl) (pe_op op_mod (pe_ix ix_list (pv 1) (pe_op op_mod (pe_op op_add (pv 3) pe_int) (pe_callB call_len_seq (by rfl) G.len PySem.boot_len (pa_cons (pv 1) pa_nil))) (fun _ _ => rfl)) (pe_op op_add (pe_op op_sub (pe_callB call_len_seq (by rfl) G.len PySem.boot_len (pa_cons (pv 2) pa_nil)) (pv 4)) pe_int)))
    (pss_cons (ps_set (i := 6) sc__law_tree.nd rfl (.inl rfl) (pe_op op_add (pv 5) (pv 4)))
    (pss_cons (ps_set (i := 2) sc__law_tree.nd rfl (.inl rfl) (pe_op op_cat (pe_op op_cat (pe_slice sl_list (pv 2) po_none (po_some (pv 5))) (pe_lst (pa_cons (pe_callTy call_tuple_of (by rfl) G.tuple (by decide +kernel) (pa_cons (pe_slice sl_list (pv 2) (po_some (pv 5)) (po_some (pv 6))) pa_nil)) pa_nil))) (pe_slice sl_list (pv 2) (po_some (pv 6)) po_none)))
    (pss_one (ps_set (i := 3) sc__law_tree.nd rfl (.inl rfl) (pe_op op_add (pv 3) pe_int))))))))
    (pss_one (ps_ret (pe_ix ix_list (pv 2) pe_int (fun _ _ => rfl)))))), ?_⟩
  refine ⟨_, rfl, a, _, rfl, .inl hA, fun tr htr => ?_⟩
  refine ⟨_, _, rfl, ?_⟩
  refine ⟨treeW K H a g ts, ⟨_, tr, 0, none, none, none, us, ts, rfl, by decide, rfl, h1, h2, hOk, rfl, upd_same, (Le.new htr).dpAll hAll, Le.new htr⟩, ?_⟩
  rintro m σ' H' ⟨tr, st, y4, y5, y6, us', ts', rfl, hst, rfl, t1, t2, tOk, tlv, h'tr, h'All, hle⟩
  have hlen : us'.length = ts'.length := by rw [dpAll_length h'All, T.dataL_map, List.length_map]
  refine ⟨_, rfl, tr, _, rfl, .inl (sql h'tr), _, _, rfl, rfl, _, rfl, ?_⟩
  refine ite2 (fun c => ?_) (fun c => ?_)
  · have c' : ((us'.length : Nat) : Int) > 1 := of_decide_eq_true c
    obtain ⟨d1, d1n, _, d1e⟩ := mod_at (i := st) hnn hd0
    obtain ⟨d0, d0n, _, d0e⟩ := nn_at (i := 0) hnn (by decide) (by omega)
    obtain ⟨d2, d2n, _, d2e⟩ := mod_at (i := st + 1) hnn hd0
    have hGp := hle.sql hG
    have hgp : (0 : Int) < (((ds.map V.int).length : Nat) : Int) := by rw [List.length_map]; omega
    obtain ⟨e, em, ee⟩ : ∃ e : Int, 0 < e ∧ atI [V.int 1, V.int 2, V.int 7] (d0 % 3) = some (.int e) := by
      have z0 : d0 % 3 = 0 ∨ d0 % 3 = 1 ∨ d0 % 3 = 2 := by omega
      rcases z0 with z | z | z <;> rw [z]
      · exact ⟨1, by decide, rfl⟩
      · exact ⟨2, by decide, rfl⟩
      · exact ⟨7, by decide, rfl⟩
    refine ⟨fun σ2 H2 => ∃ m', m' < ts'.length ∧ treeW K H a g ts m' σ2 H2, fun _ _ h => h, ?_⟩
    -- count
    refine ⟨_, rfl, tr, _, rfl, .inl (sql h'tr), _, rfl, _, rfl, _, rfl, g, _, rfl, .inl hGp, _, _, rfl, rfl, hgp, g, _, _, _, rfl, rfl, hGp, d1e, (by decide : 3 ≤ sizeLine), fun l hl => ?_⟩
    have l2 : Le H' (upd H' l (.lst [V.int 1, V.int 2, V.int 7])) := Le.new hl
    have nlt : tr ≠ l := ne_of_none h'tr hl
    refine ⟨_, rfl, g, _, _, _, rfl, rfl, l2.sql hGp, d0e, _, _, rfl, rfl, (by decide : (0 : Int) < 3), l, _, _, _, rfl, rfl, sql upd_same, ee, _, _, rfl, rfl, em, _, _, rfl, rfl, _, _, rfl, ?_⟩
    generalize ec : (if 2 + d1 % e < ((us'.length : Nat) : Int) then 2 + d1 % e else ((us'.length : Nat) : Int)) = cnt
    have hde : 0 ≤ d1 % e := Int.emod_nonneg _ (by omega)
    have c2 : 2 ≤ cnt := by rw [← ec]; split <;> omega
    have c3 : cnt ≤ ((us'.length : Nat) : Int) := by rw [← ec]; split <;> omega
    have h2tr := l2.lst h'tr
    -- first
    have hpos : (0 : Int) < ((us'.length : Nat) : Int) - cnt + 1 := by omega
    refine ⟨_, rfl, _, rfl, _, _, rfl, rfl, _, rfl, g, _, rfl, .inl (l2.sql hGp), _, _, rfl, rfl, hgp, g, _, _, _, rfl, rfl, l2.sql hGp, d2e, _, rfl, tr, _, rfl, .inl (sql h2tr), _, rfl, _, _, rfl, rfl, _, _, rfl, rfl, _, _, rfl, rfl, hpos, ?_⟩
    dsimp only
    generalize ef : d2 % (((us'.length : Nat) : Int) - cnt + 1) = fi
    have f0 : 0 ≤ fi := by rw [← ef]; exact Int.emod_nonneg _ (by omega)
    have f1 : fi < ((us'.length : Nat) : Int) - cnt + 1 := by rw [← ef]; exact Int.emod_lt_of_pos _ hpos
    -- last
    refine ⟨_, rfl, _, rfl, _, _, rfl, rfl, ?_⟩
    -- trees
    have h2All := l2.dpAll h'All
    have hle2 := hle.trans l2
    generalize upd H' l (.lst [V.int 1, V.int 2, V.int 7]) = H2 at l2 h2tr h2All hle2
    refine ⟨_, rfl, _, rfl, _, rfl, tr, us', rfl, sql h2tr, fun p1 hp1 => ?_⟩
    have k1 : upd H2 p1 (.lst (cutV us' none (some fi))) p1 = some (.lst (cutV us' none (some fi))) := upd_same
    have l1 := Le.new (o := .lst (cutV us' none (some fi))) hp1
    generalize upd H2 p1 (.lst (cutV us' none (some fi))) = H3 at k1 l1
    refine ⟨_, rfl, _, rfl, _, rfl, _, rfl, _, rfl, tr, us', rfl, sql (l1.lst h2tr), fun p2 hp2 => ?_⟩
    refine ⟨p2, _, rfl, .inl ⟨sql upd_same, fun p3 hp3 => ?_⟩⟩
    have l3 := (Le.new (o := .lst (cutV us' (some fi) (some (fi + cnt)))) hp2).trans (Le.new (o := .tup (cutV us' (some fi) (some (fi + cnt)))) hp3)
    have k3 : upd (upd H3 p2 (.lst (cutV us' (some fi) (some (fi + cnt))))) p3 (.tup (cutV us' (some fi) (some (fi + cnt)))) p3 = some (.tup (cutV us' (some fi) (some (fi + cnt)))) := upd_same
    generalize upd (upd H3 p2 (.lst (cutV us' (some fi) (some (fi + cnt))))) p3 (.tup (cutV us' (some fi) (some (fi + cnt)))) = H4 at l3 k3
    refine ⟨(by decide : 1 ≤ sizeLine), fun p4 hp4 => ?_⟩
    refine ⟨p1, p4, _, _, rfl, rfl, (l3.trans (Le.new hp4)).lst k1, upd_same, ?_, fun p5 hp5 => ?_⟩
    · have := cutV_length us' none (some fi)
      exact sz (by rw [List.length_singleton]; omega)
    have l5 := (Le.new (o := .lst [.ref p3]) hp4).trans (Le.new (o := .lst (cutV us' none (some fi) ++ [.ref p3])) hp5)
    have k5 : upd (upd H4 p4 (.lst [.ref p3])) p5 (.lst (cutV us' none (some fi) ++ [.ref p3])) p5 = some (.lst (cutV us' none (some fi) ++ [.ref p3])) := upd_same
    generalize upd (upd H4 p4 (.lst [.ref p3])) p5 (.lst (cutV us' none (some fi) ++ [.ref p3])) = H5 at l5 k5
    refine ⟨_, rfl, _, rfl, _, rfl, tr, us', rfl, sql ((l1.trans (l3.trans l5)).lst h2tr), fun p6 hp6 => ?_⟩
    refine ⟨p5, p6, _, _, rfl, rfl, (Le.new hp6).lst k5, upd_same, ?_, fun p7 hp7 => ?_⟩
    · have z1 := cutV_length us' none (some fi)
      have z2 := cutV_length us' (some (fi + cnt)) none
      exact sz (by rw [List.length_append, List.length_singleton]; omega)
    have l7 := (Le.new (o := .lst (cutV us' (some (fi + cnt)) none)) hp6).trans (Le.new (o := .lst (cutV us' none (some fi) ++ [.ref p3] ++ cutV us' (some (fi + cnt)) none)) hp7)
    refine ⟨_, rfl, _, _, rfl, rfl, ?_⟩
    -- the invariant again
    obtain ⟨w1, w2, w3, w4⟩ := tree_turn (f := fi.toNat) (l := (fi + cnt).toNat) (by omega) (by omega) tOk
    refine ⟨_, w1, p7, st + 2, _, _, _, _, _, rfl, by omega, rfl, w2, by omega, w3, w4.trans tlv, upd_same, ?_, hle2.trans (l1.trans (l3.trans (l5.trans l7)))⟩
    have lz := l5.trans l7
    have hz := (l1.trans (l3.trans lz)).dpAll h2All
    have kz := lz.tup k3
    revert hz kz
    generalize upd (upd H5 p6 (.lst (cutV us' (some (fi + cnt)) none))) p7 (.lst (cutV us' none (some fi) ++ [V.ref p3] ++ cutV us' (some (fi + cnt)) none)) = H7
    intro hz kz
    rw [cut_to f0, cut_from (by omega), T.dataL_map, List.map_append, List.map_append, List.map_take, List.map_drop, List.map_singleton, T.data, T.dataL_map, List.map_take, List.map_drop, ← T.dataL_map]
    refine dpAll_append (dpAll_append (dpAll_take _ hz) (.cons (.tup (sqt kz) ?_) .nil)) (dpAll_drop _ hz)
    rw [cut_mid f0 (by omega)]
    exact dpAll_take _ (dpAll_drop _ hz)
  · have c' : ¬ ((us'.length : Nat) : Int) > 1 := of_decide_eq_false (Bool.eq_false_iff.mpr c)
    obtain ⟨t, rfl⟩ : ∃ t, ts' = [t] := by
      match ts', t1, hlen with
      | [t], _, _ => exact ⟨t, rfl⟩
      | _ :: _ :: _, _, h => rw [h] at c'; simp only [List.length_cons] at c'; omega
    obtain ⟨v, hv, hvd⟩ := dpAll_get (i := 0) (d := t.data) h'All rfl
    have tk : t.Ok := tOk.1
    refine ⟨_, rfl, tr, _, _, _, rfl, rfl, sql h'tr, atI_nat (j := 0) hv, ?_⟩
    refine q t v H' tk ?_ hvd hle
    rw [← tlv, T.leavesL, T.leavesL, List.append_nil]
end
end Wr

set_option Elab.async false
set_option linter.all false
set_option maxRecDepth 100000
set_option maxHeartbeats 2000000
namespace Wr
open PySem PySem.Spec PyProof.Rows L2
/-! ### _law_rig -/
def sixN : List Str := ["ax", "bo", "cy", "dot", "elk", "fig"]
theorem six_nd : sixN.Nodup := by decide +kernel
def LeafOk (x : Str × Int × Int) : Prop := x.1 ∈ sixN ∧ 1 ≤ x.2.1 ∧ x.2.1 ≤ 99 ∧ 0 ≤ x.2.2 ∧ x.2.2 ≤ 20
structure RigOk (n : Nat) (t : T) : Prop where
  ok : t.Ok
  pos : 0 < t.leaves.length
  len : t.leaves.length ≤ n
  nd : (t.leaves.map (·.1)).Nodup
  leaf : ∀ x ∈ t.leaves, LeafOk x
def leafT (x : Str × Int × Int) : T := .leaf x.1 x.2.1 x.2.2
theorem leavesL_leafT : ∀ lf : List (Str × Int × Int), T.leavesL (lf.map leafT) = lf
  | [] => rfl
  | x :: r => by
    rw [List.map_cons, T.leavesL, leavesL_leafT r]
    rfl
theorem okL_leafT (lf : List (Str × Int × Int)) : T.OkL (lf.map leafT) := by
  rw [T.okL_all]
  intro t ht
  obtain ⟨x, _, rfl⟩ := List.mem_map.mp ht
  trivial
theorem erase_perm {α : Type} : ∀ {l : List α} {k : Nat} {y : α}, l[k]? = some y → (y :: l.eraseIdx k).Perm l
  | [], _, _, h => by simp at h
  | a :: r, 0, y, h => by
    cases h
    exact .refl _
  | a :: r, k + 1, y, h => by
    have ih := erase_perm (l := r) (k := k) (y := y) h
    rw [List.eraseIdx_cons_succ]
    exact (List.Perm.swap a y _).trans (ih.cons a)
theorem erase_map {α β : Type} (f : α → β) : ∀ (l : List α) (k : Nat), (l.map f).eraseIdx k = (l.eraseIdx k).map f
  | [], _ => rfl
  | _ :: _, 0 => rfl
  | a :: r, k + 1 => by
    rw [List.map_cons, List.eraseIdx_cons_succ, List.eraseIdx_cons_succ, List.map_cons, erase_map f r k]
theorem seq_ix {n : Nat} {i : Int} (h0 : 0 ≤ i) (h1 : i < n) : seqIndex? i n = some i.toNat := by
  refine (ixN_seq ?_).1
  unfold ixN
  rw [if_pos h0, if_pos h1]
theorem cut_ints {ds : List Int} {f l : Int} (h0 : 0 ≤ f) (h1 : f ≤ l) : cutV (ds.map V.int) (some f) (some l) = ((ds.drop f.toNat).take (l.toNat - f.toNat)).map V.int := by
  rw [cut_mid h0 h1, List.map_take, List.map_drop]
section
variable {P : Program} {w : World} {K : PySem.W.Frag} {mg : Str → Option Value} {base : Heap}
def spRig (K : PySem.W.Frag) : Sp := fun vs H Q _ => ∃ (g : Addr) (lim : Int) (ds : List Int), vs = [.ref g, .int lim] ∧ 1 ≤ lim ∧ lim ≤ 6 ∧ SqL K H g (ds.map V.int) ∧ Nn ds ∧ 22 ≤ ds.length ∧
  ∀ (t : T) (v : V) (H' : Hp), RigOk lim.toNat t → Dp K H' v t.data → Le H H' → Q v H'
structure RigW (K : PySem.W.Frag) (H : Hp) (g sl n lv : Addr) (lim c : Int) (ds : List Int) (i : Nat) (σ' : L2.St) (H' : Hp) : Prop where
  ex : ∃ (y5 y6 y7 : Option V) (nm : List Str) (us : List V) (lf : List (Str × Int × Int)), σ' = [some (.ref g), some (.int lim), some (.int c), some (.ref n), some (.ref lv), y5, y6, y7] ∧
    H' n = some (.lst (nm.map V.str)) ∧ H' lv = some (.lst us) ∧ us.length = i ∧ (∀ (m : Nat) (x : Str × Int × Int), lf[m]? = some x → ∃ p, us[m]? = some (.ref p) ∧ H' p = some (.tup [.str x.1, .int x.2.1, .int x.2.2])) ∧ lf.length = i ∧ nm.length + i = 6 ∧ (lf.map (·.1) ++ nm).Nodup ∧ (∀ x ∈ nm, x ∈ sixN) ∧ (∀ x ∈ lf, LeafOk x)
  sl : H' sl = some (.lst (((ds.drop 2).take c.toNat).map V.int))
  le : Le H H'
theorem ok_rig (G : Gx K mg) (k : Nat) : FnOk P w K mg base CX0 (k + 2) G.f__law_rig G.fd__law_rig ["digits", "limit"] (spRig K) := by
  have G__law_tree : FnOk P w K mg base CX0 (k + 1) G.f__law_tree G.fd__law_tree ["parts", "digits"] (spTree K) := ok_tree G k
  refine G.F__law_rig.ok sc__law_rig (fun vs H Q E h => ?_) (fun cdv A outer s H vs Q E hr h => ?_)
  · obtain ⟨g, lim, ds, rfl, _⟩ := h
    rfl
  obtain ⟨g, lim, ds, rfl, hm1, hm6, hG, hnn, hd, q⟩ := h
  refine ⟨_, (pss_cons (ps_set (i := 2) sc__law_rig.nd rfl (.inl rfl) (pe_ix ix_list (pe_lst (pa_cons (pv 1) (pa_cons (pe_op op_add pe_int (pe_op op_mod (pe_op op_fdiv (pe_ix ix_list (pv 0) pe_int (fun _ _ => rfl)) pe_int) (pv 1))) (pa_cons (pe_callB (call_min2 rfl) (by rfl) G.min (by decide +kernel) (pa_cons pe_int (pa_cons (pv 1) pa_nil))) (pa_cons (pe_callB (call_min2 rfl) (by rfl) G.min (by decide +kernel) (pa_cons pe_int (pa_cons (pv 1) pa_nil))) pa_nil))))) (pe_op op_mod (pe_ix ix_list (pv 0) pe_int (fun _ _ => rfl)) pe_int) (fun _ _ => rfl)))
    (pss_cons (ps_set (i := 3) sc__law_rig.nd rfl (.inl rfl) (pe_lst (pa_cons pe_str (pa_cons pe_str (pa_cons pe_str (pa_cons pe_str (pa_cons pe_str (pa_cons pe_str pa_nil))))))))
    (pss_cons (ps_set (i := 4) sc__law_rig.nd rfl (.inl rfl) (pe_lst pa_nil))
    (pss_cons (ps_for PassesOwn.never rfl (pi_list (pe_slice sl_list (pv 0) (po_some pe_int) (po_some (pe_op op_add pe_int (pv 2))))) (pg_name (i := 5) sc__law_rig.nd rfl (.inl rfl))
      (pss_cons (ps_set (i := 6) sc__law_rig.nd rfl (.inl rfl) (pe_ix ix_list (pe_lst (pa_cons (pe_op op_add pe_int (pe_op op_mod (pv 5) pe_int)) (pa_cons (pe_op op_add pe_int (pe_op op_mod (pv 5) pe_int)) (pa_cons (pe_ix ix_tup (pe_tup (pa_cons pe_int (pa_cons pe_int (pa_cons pe_int (pa_cons pe_int (pa_cons pe_int (pa_cons pe_int pa_nil))))))) (pe_op op_mod (pv 5) pe_int) (fun _ _ => rfl)) (pa_cons (pe_op op_add pe_int (pe_op op_mod (pv 5) pe_int)) pa_nil))))) (pe_op op_mod (pe_ix ix_list (pv 0) pe_int (fun _ _ => rfl)) pe_int) (fun _ _ => rfl)))
    (pss_cons (ps_set (i := 7) sc__law_rig.nd rfl (.inl rfl) (pe_ix ix_list (pe_lst (pa_cons (pe_op op_mod (pe_op op_fdiv (pv 5) pe_int) pe_int) (pa_cons (pe_op op_mod (pe_op op_fdiv (pv 5) pe_int) pe_int) (pa_cons (pe_op op_mul (pe_op op_mod (pe_op op_fdiv (pv 5) pe_int) pe_int) pe_int) (pa_cons pe_int pa_nil))))) (pe_op op_mod (pe_op op_fdiv (pe_ix ix_list (pv 0) pe_int (fun _ _ => rfl)) pe_int) pe_int) (fun _ _ => rfl)))
    (pss_one (ps_expr (pe_bm PySem.F.plainAttrs_list PySem.F.slot_list_append PySem.F.type_list_append mt_append (pv 4) (pa_cons (pe_tup (pa_cons (pe_bm PySem.F.plainAttrs_list PySem.F.slot_list_pop PySem.F.type_list_pop mt_popAt (pv 3) (pa_cons (pe_op op_mod (pe_op op_fdiv (pv 5) pe_int) (pe_callB call_len_seq (by rfl) G.len PySem.boot_len (pa_cons (pv 3) pa_nil))) pa_nil)) (pa_cons (pv 6) (pa_cons (pv 7) pa_nil)))) pa_nil)))))))
    (pss_one (ps_ret (pe_call G__law_tree hr (by rfl) G.m__law_tree G.F__law_tree.kp G.b__law_tree .nil pass0 (pa_cons (pv 4) (pa_cons (pe_slice sl_list (pv 0) (po_some pe_int) (po_some pe_int)) pa_nil))))))))), ?_⟩
  obtain ⟨d0, d0n, _, d0e⟩ := nn_at (i := 0) hnn (by decide) (by omega)
  obtain ⟨d1, d1n, _, d1e⟩ := nn_at (i := 1) hnn (by decide) (by omega)
  -- count
  refine ⟨_, rfl, _, rfl, g, _, _, _, rfl, rfl, hG, d0e, _, _, rfl, rfl, ⟨by decide, by decide⟩, _, rfl, _, _, rfl, rfl, (by omega : (0 : Int) < lim), _, _, rfl, rfl, _, rfl, _, _, rfl, _, rfl, _, _, rfl, (by decide : 4 ≤ sizeLine), fun l hl => ?_⟩
  obtain ⟨c, hc1, hc2, hce⟩ : ∃ c : Int, 1 ≤ c ∧ c ≤ lim ∧ atI [V.int lim, V.int (1 + d0 / 4 % lim), V.int (if lim < 3 then lim else 3), V.int (if lim < 4 then lim else 4)] (d0 % 4) = some (.int c) := by
    have z0 : d0 % 4 = 0 ∨ d0 % 4 = 1 ∨ d0 % 4 = 2 ∨ d0 % 4 = 3 := by omega
    have m0 := Int.emod_nonneg (d0 / 4) (show lim ≠ 0 by omega)
    have m1 := Int.emod_lt_of_pos (d0 / 4) (show 0 < lim by omega)
    rcases z0 with z | z | z | z <;> rw [z]
    · exact ⟨lim, by omega, by omega, rfl⟩
    · exact ⟨_, by omega, by omega, rfl⟩
    · exact ⟨_, by split <;> omega, by split <;> omega, rfl⟩
    · exact ⟨_, by split <;> omega, by split <;> omega, rfl⟩
  refine ⟨_, rfl, g, _, _, _, rfl, rfl, (Le.new hl).sql hG, d0e, _, _, rfl, rfl, (by decide : (0 : Int) < 4), l, _, _, _, rfl, rfl, sql upd_same, hce, ?_⟩
  have le1 := Le.new (o := .lst [V.int lim, V.int (1 + d0 / 4 % lim), V.int (if lim < 3 then lim else 3), V.int (if lim < 4 then lim else 4)]) hl
  generalize upd H l (.lst [V.int lim, V.int (1 + d0 / 4 % lim), V.int (if lim < 3 then lim else 3), V.int (if lim < 4 then lim else 4)]) = H1 at le1
  -- names, leaves
  refine ⟨(by decide : 6 ≤ sizeLine), fun n hn => ?_⟩
  have ln := le1.trans (Le.new (o := .lst (sixN.map V.str)) hn)
  have kn : upd H1 n (.lst (sixN.map V.str)) n = some (.lst (sixN.map V.str)) := upd_same
  have hnH : H n = none := le1.dom _ hn
  refine ⟨Nat.zero_le _, fun lv hlv => ?_⟩
  have hlvn : lv ≠ n := fun e => by
    rw [e] at hlv
    exact absurd (upd_same.symm.trans hlv) (by simp)
  have lv1 := ln.trans (Le.new (o := .lst []) hlv)
  have hlvH : H lv = none := ln.dom _ hlv
  have kn2 : upd (upd H1 n (.lst (sixN.map V.str))) lv (.lst []) n = some (.lst (sixN.map V.str)) := (upd_ne hlvn.symm).trans kn
  have klv : upd (upd H1 n (.lst (sixN.map V.str))) lv (.lst []) lv = some (.lst []) := upd_same
  -- the loop
  refine ⟨_, rfl, _, rfl, _, rfl, _, _, rfl, rfl, _, rfl, g, _, rfl, lv1.sql hG, fun sl hsl => ?_⟩
  have lsl := lv1.trans (Le.new (o := .lst (cutV (ds.map V.int) (some 2) (some (2 + c)))) hsl)
  have nsn : n ≠ sl := fun e => by
    rw [← e] at hsl
    exact absurd (kn2.symm.trans hsl) (by simp)
  have nslv : lv ≠ sl := fun e => by
    rw [← e] at hsl
    exact absurd (klv.symm.trans hsl) (by simp)
  have ecut : cutV (ds.map V.int) (some 2) (some (2 + c)) = ((ds.drop 2).take c.toNat).map V.int := by
    rw [cut_ints (by decide) (by omega)]
    congr 2
    omega
  have lent : ((ds.drop 2).take c.toNat).length = c.toNat := by
    rw [List.length_take, List.length_drop]
    omega
  refine ⟨sl, rfl, ⟨_, sql upd_same⟩, ?_⟩
  refine for_list (xs := ((ds.drop 2).take c.toNat).map V.int) (RigW K H g sl n lv lim c ds) ?_ (fun i σ' H' _ hW => sql hW.sl) ?_ ?_
  · refine ⟨⟨none, none, none, sixN, [], [], rfl, (upd_ne nsn).trans kn2, (upd_ne nslv).trans klv, rfl, by simp, rfl, rfl, by simpa using six_nd, fun x hx => hx, by simp⟩, ?_, lsl⟩
    rw [upd_same, ecut]
  · intro i x σ' H' hx hW
    obtain ⟨⟨y5, y6, y7, nm, us, lf, rfl, k1, k2, k30, k3, k4, k5, k6, k7, k8⟩, ksl, le'⟩ := hW
    rw [List.getElem?_map] at hx
    obtain ⟨d, hdm, rfl⟩ := Option.map_eq_some_iff.mp hx
    have hdin : d ∈ ds := List.mem_of_mem_drop (List.mem_of_mem_take (List.mem_of_getElem? hdm))
    have hdn : 0 ≤ d := hnn d hdin
    have hic : i < c.toNat := by
      have := (List.getElem?_eq_some_iff.mp hdm).1
      rw [lent] at this
      exact this
    -- power
    obtain ⟨e6, he61, he62, he6⟩ : ∃ e : Int, 1 ≤ e ∧ e ≤ 99 ∧ atI [V.int 3, V.int 6, V.int 12, V.int 24, V.int 48, V.int 96] (d % 6) = some (.int e) := by
      have z0 : d % 6 = 0 ∨ d % 6 = 1 ∨ d % 6 = 2 ∨ d % 6 = 3 ∨ d % 6 = 4 ∨ d % 6 = 5 := by omega
      rcases z0 with z | z | z | z | z | z <;> rw [z] <;> exact ⟨_, by decide, by decide, rfl⟩
    refine ⟨_, rfl, _, _, rfl, rfl, (by decide : (0 : Int) < 99), _, _, rfl, rfl, _, rfl, _, _, rfl, rfl, (by decide : (0 : Int) < 12), _, _, rfl, rfl, (by decide : 6 ≤ sizeLine), fun t6 ht6 => ?_⟩
    refine ⟨_, rfl, _, _, rfl, rfl, (by decide : (0 : Int) < 6), t6, _, _, _, rfl, rfl, sqt upd_same, he6, _, rfl, _, _, rfl, rfl, (by decide : (0 : Int) < 9), _, _, rfl, rfl, (by decide : 4 ≤ sizeLine), fun l2 hl2 => ?_⟩
    obtain ⟨pw, hp1, hp2, hpe⟩ : ∃ e : Int, 1 ≤ e ∧ e ≤ 99 ∧ atI [V.int (1 + d % 99), V.int (1 + d % 12), V.int e6, V.int (20 + d % 9)] (d1 % 4) = some (.int e) := by
      have z0 : d1 % 4 = 0 ∨ d1 % 4 = 1 ∨ d1 % 4 = 2 ∨ d1 % 4 = 3 := by omega
      rcases z0 with z | z | z | z <;> rw [z]
      · exact ⟨_, by omega, by omega, rfl⟩
      · exact ⟨_, by omega, by omega, rfl⟩
      · exact ⟨_, he61, he62, rfl⟩
      · exact ⟨_, by omega, by omega, rfl⟩
    have la := (Le.new (o := .tup [V.int 3, V.int 6, V.int 12, V.int 24, V.int 48, V.int 96]) ht6).trans (Le.new (o := .lst [V.int (1 + d % 99), V.int (1 + d % 12), V.int e6, V.int (20 + d % 9)]) hl2)
    refine ⟨_, rfl, g, _, _, _, rfl, rfl, (le'.trans la).sql hG, d1e, _, _, rfl, rfl, (by decide : (0 : Int) < 4), l2, _, _, _, rfl, rfl, sql upd_same, hpe, ?_⟩
    generalize upd (upd H' t6 (.tup [V.int 3, V.int 6, V.int 12, V.int 24, V.int 48, V.int 96])) l2 (.lst [V.int (1 + d % 99), V.int (1 + d % 12), V.int e6, V.int (20 + d % 9)]) = H2 at la
    -- wear
    refine ⟨_, rfl, _, _, rfl, rfl, ⟨by decide, by decide⟩, _, _, rfl, rfl, (by decide : (0 : Int) < 4), _, rfl, _, _, rfl, rfl, ⟨by decide, by decide⟩, _, _, rfl, rfl, (by decide : (0 : Int) < 21), _, rfl, _, _, rfl, rfl, ⟨by decide, by decide⟩, _, _, rfl, rfl, (by decide : (0 : Int) < 2), _, _, rfl, rfl, .inr ⟨by decide, by decide⟩, (by decide : 4 ≤ sizeLine), fun l3 hl3 => ?_⟩
    obtain ⟨wr, hw1, hw2, hwe⟩ : ∃ e : Int, 0 ≤ e ∧ e ≤ 20 ∧ atI [V.int (d / 100 % 4), V.int (d / 100 % 21), V.int (d / 100 % 2 * 3), V.int 1] (d1 / 4 % 4) = some (.int e) := by
      have z0 : d1 / 4 % 4 = 0 ∨ d1 / 4 % 4 = 1 ∨ d1 / 4 % 4 = 2 ∨ d1 / 4 % 4 = 3 := by omega
      rcases z0 with z | z | z | z <;> rw [z]
      · exact ⟨_, by omega, by omega, rfl⟩
      · exact ⟨_, by omega, by omega, rfl⟩
      · exact ⟨_, by omega, by omega, rfl⟩
      · exact ⟨_, by omega, by omega, rfl⟩
    have lb := la.trans (Le.new (o := .lst [V.int (d / 100 % 4), V.int (d / 100 % 21), V.int (d / 100 % 2 * 3), V.int 1]) hl3)
    refine ⟨_, rfl, g, _, _, _, rfl, rfl, (le'.trans lb).sql hG, d1e, _, _, rfl, rfl, ⟨by decide, by decide⟩, _, _, rfl, rfl, (by decide : (0 : Int) < 4), l3, _, _, _, rfl, rfl, sql upd_same, hwe, ?_⟩
    generalize upd H2 l3 (.lst [V.int (d / 100 % 4), V.int (d / 100 % 21), V.int (d / 100 % 2 * 3), V.int 1]) = H3 at lb
    -- leaves.append
    have k1' := lb.lst k1
    have k2' := lb.lst k2
    have nl : (nm.map V.str).length = nm.length := List.length_map _
    have npos : (0 : Int) < (((nm.map V.str).length : Nat) : Int) := by rw [nl]; omega
    have i0 : 0 ≤ d / 13 % (((nm.map V.str).length : Nat) : Int) := Int.emod_nonneg _ (by omega)
    have i1 : d / 13 % (((nm.map V.str).length : Nat) : Int) < (((nm.map V.str).length : Nat) : Int) := Int.emod_lt_of_pos _ npos
    generalize ej : d / 13 % (((nm.map V.str).length : Nat) : Int) = j at i0 i1
    have jn : j.toNat < nm.length := by rw [nl] at i1; omega
    have hy : nm[j.toNat]? = some nm[j.toNat] := List.getElem?_eq_getElem jn
    generalize nm[j.toNat] = y at hy
    have hy2 : (nm.map V.str)[j.toNat]? = some (.str y) := by rw [List.getElem?_map, hy]; rfl
    refine ⟨_, rfl, .inl ⟨rfl, _, sql k2'⟩, _, rfl, .inl ⟨rfl, _, sql k1'⟩, _, rfl, _, _, rfl, rfl, ⟨by decide, by decide⟩, _, rfl, n, _, rfl, .inl (sql k1'), _, _, rfl, rfl, npos, n, _, j, j.toNat, _, rfl, congrArg (fun z => [V.int z]) ej, k1', by omega, by rw [nl] at i1; omega, seq_ix i0 i1, hy2, _, rfl, _, rfl, (by decide : 3 ≤ sizeLine), fun tp htp => ?_⟩
    have q2 : upd H3 n (.lst ((nm.map V.str).eraseIdx j.toNat)) lv = some (.lst us) := (upd_ne hlvn).trans k2'
    have ntl : lv ≠ tp := ne_of_none q2 htp
    have ntn : n ≠ tp := ne_of_none upd_same htp
    have ksl3 := lb.lst ksl
    have nsn' : sl ≠ n := nsn.symm
    have q3 : upd H3 n (.lst ((nm.map V.str).eraseIdx j.toNat)) sl = _ := (upd_ne nsn').trans ksl3
    refine ⟨lv, _, _, rfl, rfl, (upd_ne ntl).trans q2, szlt (by omega), ?_⟩
    refine ⟨⟨_, _, _, nm.eraseIdx j.toNat, us ++ [.ref tp], lf ++ [(y, pw, wr)], rfl, ?_, upd_same, ?_, ?_, ?_, ?_, ?_, ?_, ?_⟩, ?_, ?_⟩
    · rw [upd_ne hlvn.symm, upd_ne ntn, upd_same]
      rw [erase_map]
    · rw [List.length_append, List.length_singleton, k30]
    · intro m x hx
      by_cases hm : m < lf.length
      · rw [List.getElem?_append_left hm] at hx
        obtain ⟨p, hp1, hp2⟩ := k3 m x hx
        have r1 := lb.tup hp2
        have np : p ≠ n := ne_of r1 k1' (by intro z; cases z)
        have nq : p ≠ lv := ne_of r1 k2' (by intro z; cases z)
        have r2 : upd H3 n (.lst ((nm.map V.str).eraseIdx j.toNat)) p = _ := (upd_ne np).trans r1
        refine ⟨p, ?_, ?_⟩
        · rw [List.getElem?_append_left (by omega)]
          exact hp1
        · rw [upd_ne nq, upd_ne (ne_of_none r2 htp)]
          exact r2
      · have hm2 : m = lf.length := by
          have := (List.getElem?_eq_some_iff.mp hx).1
          rw [List.length_append, List.length_singleton] at this
          omega
        rw [hm2, List.getElem?_append_right (Nat.le_refl _), Nat.sub_self] at hx
        cases hx
        refine ⟨tp, ?_, ?_⟩
        · rw [hm2, k4, ← k30, List.getElem?_append_right (Nat.le_refl _), Nat.sub_self]
          rfl
        · rw [upd_ne (fun e => ntl e.symm), upd_same]
    · rw [List.length_append, List.length_singleton, k4]
    · rw [List.length_eraseIdx, if_pos jn]
      omega
    · have pe := erase_perm hy
      refine List.Perm.nodup ?_ k6
      rw [List.map_append, List.append_assoc]
      exact List.Perm.append_left _ pe.symm
    · exact fun x hx => k7 x (List.mem_of_mem_eraseIdx hx)
    · intro x hx
      rcases List.mem_append.mp hx with hx | hx
      · exact k8 x hx
      · rw [List.mem_singleton.mp hx]
        exact ⟨k7 y (List.mem_of_getElem? hy), hp1, hp2, hw1, hw2⟩
    · rw [upd_ne nslv.symm, upd_ne (ne_of_none q3 htp)]
      exact q3
    · exact (((le'.trans lb).mut hnH).trans (Le.new htp)).mut hlvH
  · intro σ' H' hW
    obtain ⟨⟨y5, y6, y7, nm, us, lf, rfl, k1, k2, k30, k3, k4, k5, k6, k7, k8⟩, ksl, le'⟩ := hW
    rw [List.length_map, lent] at k4 k30
    have hAll : ∀ (m : Nat) (us' : List V) (lf' : List (Str × Int × Int)), us'.length = lf'.length → (∀ (m : Nat) (x : Str × Int × Int), lf'[m]? = some x → ∃ p, us'[m]? = some (.ref p) ∧ H' p = some (.tup [.str x.1, .int x.2.1, .int x.2.2])) → m = us'.length → DpAll K H' us' (T.dataL (lf'.map leafT)) := by
      intro m
      induction m with
      | zero =>
        intro us' lf' e1 e2 e3
        match us', lf', e1, e3 with
        | [], [], _, _ => exact .nil
      | succ m ih =>
        intro us' lf' e1 e2 e3
        match us', lf', e1, e3 with
        | u :: ur, x :: xr, e1, e3 =>
          obtain ⟨p, hp1, hp2⟩ := e2 0 x rfl
          cases hp1
          refine .cons (.tup (sqt hp2) (.cons (.str _) (.cons (.int _) (.cons (.int _) .nil)))) (ih ur xr (Nat.succ.inj e1) (fun m x hx => e2 (m + 1) x hx) (Nat.succ.inj e3))
    have hD := hAll us.length us lf (by omega) k3 rfl
    refine ⟨_, rfl, _, rfl, _, rfl, _, rfl, g, _, rfl, le'.sql hG, fun p8 hp8 => ?_⟩
    have l8 := Le.new (o := .lst (cutV (ds.map V.int) (some 8) (some 22))) hp8
    refine ⟨lv, p8, us, lf.map leafT, (ds.drop 8).take 14, rfl, sql (l8.lst k2), l8.dpAll hD, ?_, ?_, okL_leafT lf, ?_, ?_, ?_, ?_⟩
    · rw [List.length_map]; omega
    · rw [List.length_map]; omega
    · refine sql ?_
      rw [upd_same, cut_ints (by decide) (by decide)]
      rfl
    · exact fun d hd => hnn d (List.mem_of_mem_drop (List.mem_of_mem_take hd))
    · rw [List.length_take, List.length_drop]
      omega
    · intro t v H9 ok lvs dp le9
      rw [leavesL_leafT] at lvs
      refine q t v H9 ⟨ok, by rw [lvs]; omega, by rw [lvs]; omega, ?_, by rw [lvs]; exact k8⟩ dp (le'.trans (l8.trans le9))
      rw [lvs]
      exact (List.nodup_append.mp k6).1
end
end Wr

set_option Elab.async false
set_option linter.all false
set_option maxRecDepth 100000
set_option maxHeartbeats 2000000
namespace Wr
open PySem PySem.Spec PyProof.Rows L2
/-! ### the kinds of data -/
def tyN : PyData → String
  | .none => "NoneType"
  | .bool _ => "bool"
  | .int _ => "int"
  | .str _ => "str"
  | .list _ => "list"
  | .tuple _ => "tuple"
  | .dict _ => "dict"
theorem dp_ty {K : PySem.W.Frag} {H : Hp} : ∀ {v : V} {d : PyData}, Dp K H v d → TyX K H v (.type (tyN d))
  | _, _, .non => .base .non
  | _, _, .bl b => .base (.bl b)
  | _, _, .int i => .base (.int i)
  | _, _, .str x => .base (.str x)
  | _, _, .lst h _ => by
    rcases h with (h | ⟨o, h⟩) | ⟨o, its, n, h, c, _⟩
    · exact .base (.lst h)
    · exact .base (.frz h)
    · exact .kList h c
  | _, _, .tup h _ => by
    rcases h with (h | ⟨o, h⟩) | ⟨o, its, n, h, c, _⟩
    · exact .base (.tup h)
    · exact .fTuple h
    · exact .kTuple h c
def isIntD : PyData → Bool
  | .int _ => true
  | .bool _ => true
  | _ => false
def isBoolD : PyData → Bool
  | .bool _ => true
  | _ => false
def isStrD : PyData → Bool
  | .str _ => true
  | _ => false
def isListD : PyData → Bool
  | .list _ => true
  | _ => false
def isTupD : PyData → Bool
  | .tuple _ => true
  | _ => false
theorem kit_int : ∀ d : PyData, kitB (tyN d) "int" = some (isIntD d)
  | .none => (by decide +kernel : kitB "NoneType" "int" = some false)
  | .bool _ => (by decide +kernel : kitB "bool" "int" = some true)
  | .int _ => (by decide +kernel : kitB "int" "int" = some true)
  | .str _ => (by decide +kernel : kitB "str" "int" = some false)
  | .list _ => (by decide +kernel : kitB "list" "int" = some false)
  | .tuple _ => (by decide +kernel : kitB "tuple" "int" = some false)
  | .dict _ => (by decide +kernel : kitB "dict" "int" = some false)
theorem kit_bool : ∀ d : PyData, kitB (tyN d) "bool" = some (isBoolD d)
  | .none => (by decide +kernel : kitB "NoneType" "bool" = some false)
  | .bool _ => (by decide +kernel : kitB "bool" "bool" = some true)
  | .int _ => (by decide +kernel : kitB "int" "bool" = some false)
  | .str _ => (by decide +kernel : kitB "str" "bool" = some false)
  | .list _ => (by decide +kernel : kitB "list" "bool" = some false)
  | .tuple _ => (by decide +kernel : kitB "tuple" "bool" = some false)
  | .dict _ => (by decide +kernel : kitB "dict" "bool" = some false)
theorem kit_str : ∀ d : PyData, kitB (tyN d) "str" = some (isStrD d)
  | .none => (by decide +kernel : kitB "NoneType" "str" = some false)
  | .bool _ => (by decide +kernel : kitB "bool" "str" = some false)
  | .int _ => (by decide +kernel : kitB "int" "str" = some false)
  | .str _ => (by decide +kernel : kitB "str" "str" = some true)
  | .list _ => (by decide +kernel : kitB "list" "str" = some false)
  | .tuple _ => (by decide +kernel : kitB "tuple" "str" = some false)
  | .dict _ => (by decide +kernel : kitB "dict" "str" = some false)
theorem kit_list : ∀ d : PyData, kitB (tyN d) "list" = some (isListD d)
  | .none => (by decide +kernel : kitB "NoneType" "list" = some false)
  | .bool _ => (by decide +kernel : kitB "bool" "list" = some false)
  | .int _ => (by decide +kernel : kitB "int" "list" = some false)
  | .str _ => (by decide +kernel : kitB "str" "list" = some false)
  | .list _ => (by decide +kernel : kitB "list" "list" = some true)
  | .tuple _ => (by decide +kernel : kitB "tuple" "list" = some false)
  | .dict _ => (by decide +kernel : kitB "dict" "list" = some false)
theorem kit_tuple : ∀ d : PyData, kitB (tyN d) "tuple" = some (isTupD d)
  | .none => (by decide +kernel : kitB "NoneType" "tuple" = some false)
  | .bool _ => (by decide +kernel : kitB "bool" "tuple" = some false)
  | .int _ => (by decide +kernel : kitB "int" "tuple" = some false)
  | .str _ => (by decide +kernel : kitB "str" "tuple" = some false)
  | .list _ => (by decide +kernel : kitB "list" "tuple" = some false)
  | .tuple _ => (by decide +kernel : kitB "tuple" "tuple" = some true)
  | .dict _ => (by decide +kernel : kitB "dict" "tuple" = some false)
def betwD (d : PyData) (lo hi : Int) : Bool := match d with
  | .int i => decide (lo ≤ i) && decide (i ≤ hi)
  | _ => false
end Wr

set_option Elab.async false
set_option linter.all false
set_option maxRecDepth 100000
set_option maxHeartbeats 2000000
namespace Wr
open PySem PySem.Spec PyProof.Rows L2
section
variable {P : Program} {w : World} {K : PySem.W.Frag} {mg : Str → Option Value} {base : Heap}
def spBetween (K : PySem.W.Frag) : Sp := fun vs H Q _ => ∃ (v : V) (d : PyData) (lo hi : Int), vs = [v, .int lo, .int hi] ∧ Dp K H v d ∧ Q (.bl (betwD d lo hi)) H
theorem ok_between (G : Gx K mg) (k : Nat) : FnOk P w K mg base CX0 (k + 1) G.f_is_between G.fd_is_between ["value", "low", "high"] (spBetween K) := by
  refine G.F_is_between.ok sc_is_between (fun vs H Q E h => ?_) (fun cdv A outer s H vs Q E hr h => ?_)
  · obtain ⟨v, d, lo, hi, rfl, _⟩ := h
    rfl
  obtain ⟨v, d, lo, hi, rfl, hd, q⟩ := h
  refine ⟨_, (pss_one (ps_ret (pe_and (pe_callB call_isi (by rfl) G.isinstance (by decide +kernel) (pa_cons (pv 0) (pa_cons (pe_bltn (v := .ty "int") (u := .type "int") (by rfl) G.int (by decide +kernel) rfl) pa_nil))) (pe_and (pe_not (pe_callB call_isi (by rfl) G.isinstance (by decide +kernel) (pa_cons (pv 0) (pa_cons (pe_bltn (v := .ty "bool") (u := .type "bool") (by rfl) G.bool (by decide +kernel) rfl) pa_nil)))) (pe_one (pe_chain op_le op_le (pv 1) (pv 0) (pv 2))))))), ?_⟩
  refine ⟨_, rfl, v, _, _, _, _, rfl, .ty "int", dp_ty hd, kit_ty (kit_int d), _, rfl, ?_⟩
  cases d with
  | int i =>
    refine iteT ⟨_, rfl, v, _, _, _, _, rfl, .ty "bool", dp_ty hd, kit_ty (kit_bool _), _, rfl, _, rfl, iteT ?_⟩
    cases hd
    refine ⟨_, rfl, _, rfl, _, _, rfl, rfl, _, rfl, ite2 (fun c => ?_) (fun c => ?_)⟩
    · refine ⟨_, rfl, _, _, rfl, rfl, ?_⟩
      have e : betwD (.int i) lo hi = decide (i ≤ hi) := by
        show (decide (lo ≤ i) && decide (i ≤ hi)) = _
        rw [show decide (lo ≤ i) = true from c]
        rfl
      rw [e] at q
      exact q
    · have e : betwD (.int i) lo hi = false := by
        show (decide (lo ≤ i) && decide (i ≤ hi)) = _
        rw [show decide (lo ≤ i) = false from Bool.eq_false_iff.mpr c]
        rfl
      rw [e] at q
      exact q
  | bool b => exact iteT ⟨_, rfl, v, _, _, _, _, rfl, .ty "bool", dp_ty hd, kit_ty (kit_bool _), _, rfl, _, rfl, iteF q⟩
  | none => exact iteF q
  | str x => exact iteF q
  | list xs => exact iteF q
  | tuple xs => exact iteF q
  | dict kvs => exact iteF q
theorem ok_isint (G : Gx K mg) (k : Nat) : FnOk P w K mg base CX0 (k + 1) G.f__law_is_integer G.fd__law_is_integer ["value", "low", "high"] (spBetween K) := by
  refine G.F__law_is_integer.ok sc__law_is_integer (fun vs H Q E h => ?_) (fun cdv A outer s H vs Q E hr h => ?_)
  · obtain ⟨v, d, lo, hi, rfl, _⟩ := h
    rfl
  obtain ⟨v, d, lo, hi, rfl, hd, q⟩ := h
  refine ⟨_, (pss_one (ps_ret (pe_and (pe_callB call_isi (by rfl) G.isinstance (by decide +kernel) (pa_cons (pv 0) (pa_cons (pe_bltn (v := .ty "int") (u := .type "int") (by rfl) G.int (by decide +kernel) rfl) pa_nil))) (pe_and (pe_not (pe_callB call_isi (by rfl) G.isinstance (by decide +kernel) (pa_cons (pv 0) (pa_cons (pe_bltn (v := .ty "bool") (u := .type "bool") (by rfl) G.bool (by decide +kernel) rfl) pa_nil)))) (pe_one (pe_chain op_le op_le (pv 1) (pv 0) (pv 2))))))), ?_⟩
  refine ⟨_, rfl, v, _, _, _, _, rfl, .ty "int", dp_ty hd, kit_ty (kit_int d), _, rfl, ?_⟩
  cases d with
  | int i =>
    refine iteT ⟨_, rfl, v, _, _, _, _, rfl, .ty "bool", dp_ty hd, kit_ty (kit_bool _), _, rfl, _, rfl, iteT ?_⟩
    cases hd
    refine ⟨_, rfl, _, rfl, _, _, rfl, rfl, _, rfl, ite2 (fun c => ?_) (fun c => ?_)⟩
    · refine ⟨_, rfl, _, _, rfl, rfl, ?_⟩
      have e : betwD (.int i) lo hi = decide (i ≤ hi) := by
        show (decide (lo ≤ i) && decide (i ≤ hi)) = _
        rw [show decide (lo ≤ i) = true from c]
        rfl
      rw [e] at q
      exact q
    · have e : betwD (.int i) lo hi = false := by
        show (decide (lo ≤ i) && decide (i ≤ hi)) = _
        rw [show decide (lo ≤ i) = false from Bool.eq_false_iff.mpr c]
        rfl
      rw [e] at q
      exact q
  | bool b => exact iteT ⟨_, rfl, v, _, _, _, _, rfl, .ty "bool", dp_ty hd, kit_ty (kit_bool _), _, rfl, _, rfl, iteF q⟩
  | none => exact iteF q
  | str x => exact iteF q
  | list xs => exact iteF q
  | tuple xs => exact iteF q
  | dict kvs => exact iteF q
def spSame (K : PySem.W.Frag) : Sp := fun vs H Q _ => ∃ (b c : Bool), vs = [.bl b, .bl c] ∧ Q (.bl (decide (b = c))) H
theorem ok_same (G : Gx K mg) (k : Nat) : FnOk P w K mg base CX0 (k + 1) G.f__law_same_bool G.fd__law_same_bool ["result", "expected"] (spSame K) := by
  refine G.F__law_same_bool.ok sc__law_same_bool (fun vs H Q E h => ?_) (fun cdv A outer s H vs Q E hr h => ?_)
  · obtain ⟨b, c, rfl, _⟩ := h
    rfl
  obtain ⟨b, c, rfl, q⟩ := h
  refine ⟨_, (pss_one (ps_ret (pe_and (pe_callB call_isi (by rfl) G.isinstance (by decide +kernel) (pa_cons (pv 0) (pa_cons (pe_bltn (v := .ty "bool") (u := .type "bool") (by rfl) G.bool (by decide +kernel) rfl) pa_nil))) (pe_one (pe_cmpR op_eq (pv 0) (pv 1) (nomark _)))))), ?_⟩
  refine ⟨_, rfl, _, _, _, _, _, rfl, .ty "bool", dp_ty (.bl b), kit_ty (kit_bool _), _, rfl, iteT ⟨_, rfl, _, rfl, rfl, ?_⟩⟩
  have e : decide (V.bl b = V.bl c) = decide (b = c) := by cases b <;> cases c <;> rfl
  rw [e]
  exact q
end
end Wr

set_option Elab.async false
set_option linter.all false
set_option maxRecDepth 100000
set_option maxHeartbeats 2000000
namespace Wr
open PySem PySem.Spec PyProof.Rows L2
theorem noFree {env : Env} {scope : Scope} (h : ∀ y ∈ scope.names, y.2 ≠ .free) : ∀ y ∈ scope.names, y.2 = .free → ∃ c, env.cells.lookup y.1 = some c := fun y hy e => absurd e (h y hy)
/-! ### 'a' <= x <= 'z' -/
def azB (c : Nat) : Bool := decide (97 ≤ c) && decide (c ≤ 122)
theorem lt_one (a b : Nat) : decide ([a] < [b]) = decide (a < b) := by
  by_cases h : a < b
  · rw [decide_eq_true h]
    exact decide_eq_true (List.Lex.rel h)
  · rw [decide_eq_false h]
    refine decide_eq_false fun q => ?_
    cases q with
    | rel r => exact h r
    | cons r => cases r
theorem elt_az {prog : Program} {w : World} {scope : Scope} {x : Str} {j1 j2 : Nat} {p1 p2 p3 p4 : Pos} (hk : scope.kind = .function) (hl : scope.names.lookup x = some .local) (hd : (x == ("__debug__" : Str)) = false := by decide) :
    GxR.EltP prog w scope x (.Compare (.Constant (.str "a") j1 p1) [.LtE, .LtE] [.Name x p2, .Constant (.str "z") j2 p3] p4) azB := by
  intro cenv A' E' c t s2 m2 hs hn hm
  refine Compare_chain (Calls.Constant_str (chain_link ?_))
  refine wpAny_Name (wpAny_loadName_local (by rw [hs]; exact hk) (show cenv.scope.names.lookup x = some .local by rw [hs]; exact hl) (m := m2) ?_ hm ?_) hd
  · exact hn
  refine PySem.P.le_str (wpAny_truthy_bool ?_)
  have e1 : (!decide ([c] < [97])) = decide (97 ≤ c) := by
    rw [lt_one]
    by_cases h : c < 97
    · rw [decide_eq_true h, decide_eq_false (by omega)]
      rfl
    · rw [decide_eq_false h, decide_eq_true (by omega)]
      rfl
  have e2 : (!decide ([122] < [c])) = decide (c ≤ 122) := by
    rw [lt_one]
    by_cases h : 122 < c
    · rw [decide_eq_true h, decide_eq_false (by omega)]
      rfl
    · rw [decide_eq_false h, decide_eq_true (by omega)]
      rfl
  have e3 : (!decide ((⟨#[c]⟩ : Str).cps.toList < ("a" : Str).cps.toList)) = decide (97 ≤ c) := e1
  have e4 : (!decide (("z" : Str).cps.toList < (⟨#[c]⟩ : Str).cps.toList)) = decide (c ≤ 122) := e2
  cases h : decide (97 ≤ c) with
  | false =>
    rw [e3, h]
    refine ite_ff ⟨?_, GxR.keeps_tok _ _⟩
    unfold azB
    rw [h]
    rfl
  | true =>
    rw [e3, h]
    refine ite_tt (chain_last (Calls.Constant_str (PySem.P.le_str ⟨?_, GxR.keeps_tok _ _⟩)))
    unfold azB
    rw [h]
    exact congrArg Value.bool e4
section
variable {P : Program} {w : World} {K : PySem.W.Frag} {mg : Str → Option Value} {base : Heap}
def nameB (z : Str) : Bool := decide (1 ≤ z.length) && decide (z.length ≤ 8) && z.cps.toList.all azB
def nameD (d : PyData) : Bool := match d with
  | .str z => nameB z
  | _ => false
def spName (K : PySem.W.Frag) (T : Addr) : Sp := fun vs H Q _ => ∃ (v : V) (d : PyData), vs = [v] ∧ Dp K H v d ∧ (∀ z, d = .str z → z.length ≤ 1000) ∧ GxR.TabG H T ∧ ∀ H', Le H H' → Q (.bl (nameD d)) H'
theorem ok_name (G : Gx K mg) (TB : GxR.TabB base mg G.c_is_name G.p_is_name) (k : Nat) : FnOk P w K mg base CX0 (k + 2) G.f_is_name G.fd_is_name ["value"] (spName K G.p_is_name) := by
  refine G.FC_is_name.ok sc_is_name (fun vs H Q E h => ?_) (fun A outer s H vs Q E hr h => ?_)
  · obtain ⟨v, d, rfl, _⟩ := h
    rfl
  obtain ⟨v, d, rfl, hd, hz, hT, q⟩ := h
  refine ⟨_, (pss_one (ps_ret (pe_and (pe_callB call_isi (by rfl) G.isinstance (by decide +kernel) (pa_cons (pv 0) (pa_cons (pe_bltn (v := .ty "str") (u := .type "str") (by rfl) G.str (by decide +kernel) rfl) pa_nil))) (pe_and (pe_chain op_le op_le pe_int (pe_callB call_len_str (by rfl) G.len PySem.boot_len (pa_cons (pv 0) pa_nil)) pe_int) (pe_one (GxR.pe_allS hr (by rfl) G.all (by decide +kernel) TB rfl ⟨rfl, rfl, by decide +kernel, rfl, rfl, noFree (by decide +kernel)⟩ (pv 0) (elt_az rfl rfl) (fun _ => rfl))))))), ?_⟩
  refine ⟨_, rfl, v, _, _, _, _, rfl, .ty "str", dp_ty hd, kit_ty (kit_str d), _, rfl, ?_⟩
  cases d with
  | str z =>
    have hz := hz z rfl
    cases hd
    have fin : ∀ b : Bool, b = decide (1 ≤ z.length) → ∀ c : Bool, c = decide (z.length ≤ 8) → ∀ a : Bool, a = z.cps.toList.all azB → nameD (.str z) = (b && c && a) := fun b hb c hc a ha => by
      rw [hb, hc, ha]
      rfl
    refine iteT ⟨_, rfl, z, rfl, sz (by omega), _, _, rfl, rfl, _, rfl, ite2 (fun c => ?_) (fun c => ?_)⟩
    · have c1 : (1 : Int) ≤ (z.length : Int) := of_decide_eq_true c
      have d1 : true = decide (1 ≤ z.length) := (decide_eq_true (by omega)).symm
      refine ⟨_, _, rfl, rfl, _, rfl, ite2 (fun c => ?_) (fun c => ?_)⟩
      · have c2 : (z.length : Int) ≤ 8 := of_decide_eq_true c
        have d2 : true = decide (z.length ≤ 8) := (decide_eq_true (by omega)).symm
        refine ⟨_, rfl, z, rfl, hT, fun H2 ht => ?_⟩
        have q' := q H2 (Le.tabbed ht hT)
        rw [fin true d1 true d2 _ rfl] at q'
        exact q'
      · have c2 : ¬ (z.length : Int) ≤ 8 := fun z => c (decide_eq_true z)
        have d2 : false = decide (z.length ≤ 8) := (decide_eq_false (by omega)).symm
        have q' := q H (Le.refl H)
        rw [fin true d1 false d2 _ rfl] at q'
        exact q'
    · have c1 : ¬ (1 : Int) ≤ (z.length : Int) := fun z => c (decide_eq_true z)
      have d1 : false = decide (1 ≤ z.length) := (decide_eq_false (by omega)).symm
      have q' := q H (Le.refl H)
      rw [fin false d1 _ rfl _ rfl] at q'
      exact ⟨_, rfl, iteF q'⟩
  | int i => exact iteF (q _ (Le.refl H))
  | bool b => exact iteF (q _ (Le.refl H))
  | none => exact iteF (q _ (Le.refl H))
  | list xs => exact iteF (q _ (Le.refl H))
  | tuple xs => exact iteF (q _ (Le.refl H))
  | dict kvs => exact iteF (q _ (Le.refl H))
end
end Wr

set_option Elab.async false
set_option linter.all false
set_option maxRecDepth 100000
set_option maxHeartbeats 2000000
namespace Wr
open PySem PySem.Spec PyProof.Rows L2
mutual
def goodD : PyData → Bool
  | .str z => decide (z.length ≤ 1000) && PyData.strOk z
  | .list xs => goodL xs
  | .tuple xs => goodL xs
  | .dict _ => false
  | _ => true
def goodL : List PyData → Bool
  | [] => true
  | d :: r => goodD d && goodL r
end
mutual
def sizeD : PyData → Nat
  | .list xs => sizeL xs + 1
  | .tuple xs => sizeL xs + 1
  | _ => 1
def sizeL : List PyData → Nat
  | [] => 0
  | d :: r => sizeD d + sizeL r
end
theorem sizeD_pos (d : PyData) : 1 ≤ sizeD d := by
  cases d <;> simp only [sizeD] <;> omega
theorem goodL_mem : ∀ {ds : List PyData} {d : PyData}, goodL ds = true → d ∈ ds → goodD d = true
  | e :: r, d, h, hm => by
    rw [goodL, Bool.and_eq_true] at h
    rcases List.mem_cons.mp hm with z | z
    · rw [z]
      exact h.1
    · exact goodL_mem h.2 z
theorem goodL_all {ds : List PyData} : goodL ds = true ↔ ∀ d ∈ ds, goodD d = true := by
  constructor
  · exact fun h d hd => goodL_mem h hd
  · intro h
    induction ds with
    | nil => rfl
    | cons e r ih =>
      rw [goodL, h e (List.mem_cons_self ..), ih fun d hd => h d (List.mem_cons_of_mem _ hd)]
      rfl
theorem sizeL_mem : ∀ {ds : List PyData} {d : PyData}, d ∈ ds → sizeD d ≤ sizeL ds
  | e :: r, d, hm => by
    rw [sizeL]
    rcases List.mem_cons.mp hm with z | z
    · rw [z]
      omega
    · have := sizeL_mem z
      omega
theorem sizeL_append (xs ys : List PyData) : sizeL (xs ++ ys) = sizeL xs + sizeL ys := by
  induction xs with
  | nil => simp [sizeL]
  | cons e r ih =>
    rw [List.cons_append, sizeL, sizeL, ih]
    omega
theorem sizeL_len (xs : List PyData) : xs.length ≤ sizeL xs := by
  induction xs with
  | nil => simp
  | cons e r ih =>
    rw [List.length_cons, sizeL]
    have := sizeD_pos e
    omega
theorem dpAll3 {K : PySem.W.Frag} {H : Hp} : ∀ {xs : List V} {ds : List PyData}, DpAll K H xs ds → ds.length = 3 → ∃ x y z n p w, xs = [x, y, z] ∧ ds = [n, p, w] ∧ Dp K H x n ∧ Dp K H y p ∧ Dp K H z w
  | _, _, .cons h1 (.cons h2 (.cons h3 .nil)), _ => ⟨_, _, _, _, _, _, rfl, rfl, h1, h2, h3⟩
  | _, _, .cons _ (.cons _ (.cons _ (.cons _ _))), e => by simp at e
  | _, _, .cons _ (.cons _ .nil), e => by simp at e
  | _, _, .cons _ .nil, e => by simp at e
  | _, _, .nil, e => by simp at e
def strandD (d : PyData) : Bool := match d with
  | .tuple [n, p, w] => nameD n && betwD p 1 99 && betwD w 0 20
  | _ => false
theorem strandD_len {ds : List PyData} (h : ds.length ≠ 3) : strandD (.tuple ds) = false := by
  match ds, h with
  | [], _ => rfl
  | [_], _ => rfl
  | [_, _], _ => rfl
  | [_, _, _], h => exact absurd rfl h
  | _ :: _ :: _ :: _ :: _, _ => rfl
section
variable {P : Program} {w : World} {K : PySem.W.Frag} {mg : Str → Option Value} {base : Heap}
theorem tabN (G : Gx K mg) : True := trivial
def spStrand (K : PySem.W.Frag) (T : Addr) : Sp := fun vs H Q _ => ∃ (v : V) (d : PyData), vs = [v] ∧ Dp K H v d ∧ goodD d = true ∧ GxR.TabG H T ∧ ∀ H', Le H H' → Q (.bl (strandD d)) H'
theorem ok_strand (G : Gx K mg) (TB : GxR.TabB base mg G.c_is_name G.p_is_name) (k : Nat) : FnOk P w K mg base CX0 (k + 3) G.f_is_strand G.fd_is_strand ["value"] (spStrand K G.p_is_name) := by
  have G_is_name : FnOk P w K mg base CX0 (k + 2) G.f_is_name G.fd_is_name ["value"] (spName K G.p_is_name) := ok_name G TB k
  have G_is_between : FnOk P w K mg base CX0 (k + 2) G.f_is_between G.fd_is_between ["value", "low", "high"] (spBetween K) := ok_between G (k + 1)
  refine G.F_is_strand.ok sc_is_strand (fun vs H Q E h => ?_) (fun cdv A outer s H vs Q E hr h => ?_)
  · obtain ⟨v, d, rfl, _⟩ := h
    rfl
  obtain ⟨v, d, rfl, hd, hz, hT, q⟩ := h
  refine ⟨_, (pss_cons (ps_if (PW.pt (pw_or (pt_not (pt_val (pe_callB call_isi (by rfl) G.isinstance (by decide +kernel) (pa_cons (pv 0) (pa_cons (pe_bltn (v := .ty "tuple") (u := .type "tuple") (by rfl) G.tuple (by decide +kernel) rfl) pa_nil))))) (pw_or1 (pt_cmpR op_ne (pe_callB call_len_seq (by rfl) G.len PySem.boot_len (pa_cons (pv 0) pa_nil)) pe_int (nomark _))))) (pss_one (ps_ret pe_bl)) pss_nil)
    (pss_cons (ps_asg (pv 0) (pg_tup rfl (pgs_cons (pg_name (i := 1) sc_is_strand.nd rfl (.inl rfl)) (pgs_cons (pg_name (i := 2) sc_is_strand.nd rfl (.inl rfl)) (pgs_cons (pg_name (i := 3) sc_is_strand.nd rfl (.inl rfl)) pgs_nil)))))
    (pss_one (ps_ret (pe_and (pe_call G_is_name hr (by rfl) G.m_is_name G.F_is_name.kp G.b_is_name .nil pass0 (pa_cons (pv 1) pa_nil)) (pe_and (pe_call G_is_between hr (by rfl) G.m_is_between G.F_is_between.kp G.b_is_between .nil pass0 (pa_cons (pv 2) (pa_cons pe_int (pa_cons pe_int pa_nil)))) (pe_one (pe_call G_is_between hr (by rfl) G.m_is_between G.F_is_between.kp G.b_is_between .nil pass0 (pa_cons (pv 3) (pa_cons pe_int (pa_cons (pe_glob (v := .int 20) rfl G.c_LARGEST_WEAR ⟨_, rfl⟩) pa_nil))))))))))), ?_⟩
  refine ⟨_, rfl, v, _, _, _, _, rfl, .ty "tuple", dp_ty hd, kit_ty (kit_tuple d), _, rfl, ?_⟩
  cases d with
  | tuple ds =>
    cases hd with
    | @tup a xs _ hS hAll =>
    have hlen := dpAll_length hAll
    refine iteF ⟨_, rfl, a, _, rfl, .inr hS, rfl, _, rfl, ?_⟩
    by_cases h3 : ds.length = 3
    · have e3 : (!decide (V.int ((xs.length : Nat) : Int) = V.int 3)) = false := by
        rw [hlen, h3]
        rfl
      rw [e3]
      refine iteF ?_
      obtain ⟨x, y, z, n, p, w, rfl, rfl, h1, h2, h3⟩ := dpAll3 hAll h3
      rw [goodD, goodL_all] at hz
      refine ⟨_, rfl, a, _, rfl, hS, rfl, _, _, rfl, _, _, rfl, _, _, rfl, rfl, ?_⟩
      refine ⟨_, rfl, _, n, rfl, h1, ?_, hT, fun H1 l1 => ?_⟩
      · rintro z rfl
        have := hz (.str z) (List.mem_cons_self ..)
        rw [goodD, Bool.and_eq_true] at this
        exact of_decide_eq_true this.1
      refine ⟨_, rfl, ?_⟩
      cases e1 : nameD n with
      | false =>
        have q' := q H1 l1
        rw [strandD, e1] at q'
        exact iteF q'
      | true =>
        refine iteT ⟨_, rfl, _, p, 1, 99, rfl, l1.dp h2, _, rfl, ?_⟩
        cases e2 : betwD p 1 99 with
        | false =>
          have q' := q H1 l1
          rw [strandD, e1, e2] at q'
          exact iteF q'
        | true =>
          refine iteT ⟨_, rfl, _, w, 0, 20, rfl, l1.dp h3, ?_⟩
          have q' := q H1 l1
          rw [strandD, e1, e2] at q'
          exact q'
    · have e3 : (!decide (V.int ((xs.length : Nat) : Int) = V.int 3)) = true := by
        rw [hlen]
        rw [decide_eq_false (fun e => h3 (by injection e with e; omega))]
        rfl
      rw [e3]
      have q' := q H (Le.refl H)
      rw [strandD_len h3] at q'
      exact iteT q'
  | int i => exact iteT (iteT (q _ (Le.refl H)))
  | bool b => exact iteT (iteT (q _ (Le.refl H)))
  | none => exact iteT (iteT (q _ (Le.refl H)))
  | list xs => exact iteT (iteT (q _ (Le.refl H)))
  | str xs => exact iteT (iteT (q _ (Le.refl H)))
  | dict kvs => exact iteT (iteT (q _ (Le.refl H)))
end
end Wr

set_option Elab.async false
set_option linter.all false
set_option maxRecDepth 100000
set_option maxHeartbeats 2000000
namespace Wr
open PySem PySem.Spec PyProof.Rows L2
/-! ### the leaves, as is_rig meets them -/
def nameOf : PyData → Str
  | .tuple (.str n :: _) => n
  | _ => ""
mutual
def leafP : PyData → List (Option Str)
  | .tuple xs => if strandD (.tuple xs) = true then [some (nameOf (.tuple xs))] else if 2 ≤ xs.length then leafPL xs else [none]
  | _ => [none]
def leafPL : List PyData → List (Option Str)
  | [] => []
  | d :: r => leafP d ++ leafPL r
end
theorem leafPL_append (xs ys : List PyData) : leafPL (xs ++ ys) = leafPL xs ++ leafPL ys := by
  induction xs with
  | nil => rfl
  | cons e r ih => rw [List.cons_append, leafPL, leafPL, ih, List.append_assoc]
theorem strand_shape {d : PyData} (h : strandD d = true) : ∃ n p w, d = .tuple [.str n, p, w] := by
  unfold strandD at h
  split at h
  · rename_i n p w
    cases n with
    | str z => exact ⟨z, p, w, rfl⟩
    | _ => simp [nameD] at h
  · cases h
theorem leafP_strand {d : PyData} (h : strandD d = true) : leafP d = [some (nameOf d)] := by
  obtain ⟨n, p, w, rfl⟩ := strand_shape h
  rw [leafP, if_pos h]
theorem leafP_node {ds : List PyData} (h : strandD (.tuple ds) = false) (h2 : 2 ≤ ds.length) : leafP (.tuple ds) = leafPL ds := by
  rw [leafP, if_neg (by rw [h]; decide), if_pos h2]
def OkN (ns : List (Option Str)) : Prop := none ∉ ns ∧ ns.length ≤ 6 ∧ ns.Nodup
instance (ns : List (Option Str)) : Decidable (OkN ns) := by unfold OkN; infer_instance
theorem OkN.perm {xs ys : List (Option Str)} (h : xs.Perm ys) : OkN xs ↔ OkN ys := by
  unfold OkN
  rw [h.mem_iff, h.length_eq, h.nodup_iff]
def isRigB (d : PyData) : Bool := decide (OkN (leafP d))
theorem inV_str (n : Str) (nm : List Str) : inV (.str n) (nm.map V.str) = decide (n ∈ nm) := by
  unfold inV
  rw [List.any_map, Bool.eq_iff_iff, List.any_eq_true, decide_eq_true_iff]
  constructor
  · intro ⟨x, hx, e⟩
    have e2 : x = n := eq_of_beq (show (x == n) = true from e)
    rw [← e2]
    exact hx
  · exact fun h => ⟨n, h, beq_self_eq_true (a := n)⟩
theorem all_flat (nm : List Str) : (nm.map V.str).all flatV = true := by
  rw [List.all_map, List.all_eq_true]
  exact fun _ _ => rfl
theorem split_last {K : PySem.W.Frag} {H : Hp} {us : List V} {ds : List PyData} (h : DpAll K H us ds) (hne : us ≠ []) : ∃ ur u dr d, us = ur ++ [u] ∧ ds = dr ++ [d] ∧ DpAll K H ur dr ∧ Dp K H u d := by
  induction us generalizing ds with
  | nil => exact absurd rfl hne
  | cons x r ih =>
    cases h with
    | @cons _ _ e es h1 h2 =>
      by_cases hr : r = []
      · subst hr
        cases h2
        exact ⟨[], x, [], e, rfl, rfl, .nil, h1⟩
      · obtain ⟨ur, u, dr, d, rfl, rfl, q1, q2⟩ := ih h2 hr
        exact ⟨x :: ur, u, e :: dr, d, rfl, rfl, .cons h1 q1, q2⟩
theorem leafP_else {d : PyData} (h : strandD d = false) (h2 : ∀ ds, d = .tuple ds → ds.length < 2) : leafP d = [none] := by
  cases d with
  | tuple ds => rw [leafP, if_neg (by rw [h]; decide), if_neg (by have := h2 ds rfl; omega)]
  | _ => simp [leafP]
theorem sizeL_last (ds : List PyData) (d : PyData) : sizeL (ds ++ [d]) = sizeL ds + sizeD d := by
  rw [sizeL_append, sizeL, sizeL, Nat.add_zero]
theorem dup_in {nm : List Str} {n : Str} {rest : List (Option Str)} (h : n ∈ nm) : ¬ OkN (nm.map some ++ (rest ++ [some n])) := fun ⟨_, _, nd⟩ => by
  rw [List.nodup_append] at nd
  exact nd.2.2 (some n) (List.mem_map.mpr ⟨n, h, rfl⟩) (some n) (by simp) rfl
section
variable {P : Program} {w : World} {K : PySem.W.Frag} {mg : Str → Option Value} {base : Heap}
def spIsRig (K : PySem.W.Frag) (T : Addr) : Sp := fun vs H Q _ => ∃ (v : V) (d : PyData), vs = [v] ∧ Dp K H v d ∧ goodD d = true ∧ sizeD d ≤ 1000 ∧ GxR.TabG H T ∧ ∀ H', Le H H' → Q (.bl (isRigB d)) H'
structure IsRigW (K : PySem.W.Frag) (H : Hp) (v : V) (d : PyData) (nl wt : Addr) (m : Nat) (σ' : L2.St) (H' : Hp) : Prop where
  ex : ∃ (y3 : Option V) (nm : List Str) (us : List V) (ds : List PyData), σ' = [some v, some (.ref nl), some (.ref wt), y3] ∧ H' nl = some (.lst (nm.map V.str)) ∧ H' wt = some (.lst us) ∧ DpAll K H us ds ∧ m = sizeL ds ∧ sizeL ds ≤ 1000 ∧ goodL ds = true ∧ nm.Nodup ∧ nm.length ≤ 6 ∧ (OkN (nm.map some ++ leafPL ds) ↔ OkN (leafP d))
  le : Le H H'
theorem ok_isrig (G : Gx K mg) (TB : GxR.TabB base mg G.c_is_name G.p_is_name) (k : Nat) : FnOk P w K mg base CX0 (k + 4) G.f_is_rig G.fd_is_rig ["value"] (spIsRig K G.p_is_name) := by
  have G_is_strand : FnOk P w K mg base CX0 (k + 3) G.f_is_strand G.fd_is_strand ["value"] (spStrand K G.p_is_name) := ok_strand G TB k
  refine G.F_is_rig.ok sc_is_rig (fun vs H Q E h => ?_) (fun cdv A outer s H vs Q E hr h => ?_)
  · obtain ⟨v, d, rfl, _⟩ := h
    rfl
  obtain ⟨v, d, rfl, hd, hz, hsz, hT, q⟩ := h
  refine ⟨_, (pss_cons (ps_set (i := 1) sc_is_rig.nd rfl (.inl rfl) (pe_lst pa_nil))
    (pss_cons (ps_set (i := 2) sc_is_rig.nd rfl (.inl rfl) (pe_lst (pa_cons (pv 0) pa_nil)))
    (pss_cons (ps_while PassesOwn.never (pt_truth (pv 2) (by intro _; rfl)) (pss_cons (ps_set (i := 3) sc_is_rig.nd rfl (.inl rfl) (pe_bm0 PySem.F.plainAttrs_list PySem.F.slot_list_pop PySem.F.type_list_pop mt_pop (pv 2)))
    (pss_one (ps_if (pt_val (pe_call G_is_strand hr (by rfl) G.m_is_strand G.F_is_strand.kp G.b_is_strand .nil pass0 (pa_cons (pv 3) pa_nil))) (pss_cons (ps_if (PW.pt (pw_or (pt_cmpR op_in_seq (pe_ix ix_tup (pv 3) pe_int (fun _ _ => rfl)) (pv 1) (by rfl)) (pw_or1 (pt_cmpR op_eq (pe_callB call_len_seq (by rfl) G.len PySem.boot_len (pa_cons (pv 1) pa_nil)) (pe_glob (v := .int 6) rfl G.c_MOST_STRANDS ⟨_, rfl⟩) (nomark _))))) (pss_one (ps_ret pe_bl)) pss_nil)
    (pss_one (ps_expr (pe_bm PySem.F.plainAttrs_list PySem.F.slot_list_append PySem.F.type_list_append mt_append (pv 1) (pa_cons (pe_ix ix_tup (pv 3) pe_int (fun _ _ => rfl)) pa_nil))))) (pss_one (ps_if (PW.pt (pw_and (pt_val (pe_callB call_isi (by rfl) G.isinstance (by decide +kernel) (pa_cons (pv 3) (pa_cons (pe_bltn (v := .ty "tuple") (u := .type "tuple") (by rfl) G.tuple (by decide +kernel) rfl) pa_nil)))) (pw_and1 (pt_cmpR op_ge (pe_callB call_len_seq (by rfl) G.len PySem.boot_len (pa_cons (pv 3) pa_nil)) pe_int (nomark _))))) (pss_one (ps_expr (pe_bm PySem.F.plainAttrs_list PySem.F.slot_list_extend PySem.F.type_list_extend mt_extT (pv 2) (pa_cons (pv 3) pa_nil)))) (pss_one (ps_ret pe_bl))))))))
    (pss_one (ps_ret pe_bl))))), ?_⟩
  refine ⟨Nat.zero_le _, fun nl hnl => ?_⟩
  refine ⟨_, rfl, (by decide : 1 ≤ sizeLine), fun wt hwt => ?_⟩
  have l1 := (Le.new (o := .lst []) hnl).trans (Le.new (o := .lst [v]) hwt)
  have hwH : H wt = none := (Le.new (o := .lst []) hnl).dom _ hwt
  have nwn : nl ≠ wt := ne_of_none upd_same hwt
  refine ⟨IsRigW K H v d nl wt, ⟨sizeL [d], ⟨⟨none, [], [v], [d], rfl, (upd_ne nwn).trans upd_same, upd_same, .cons hd .nil, rfl, by simpa [sizeL] using hsz, by simpa [goodL] using hz, List.nodup_nil, by decide, ?_⟩, l1⟩⟩, ?_⟩
  · rw [leafPL, leafPL, List.append_nil]
    exact Iff.rfl
  rintro m σ' H' ⟨⟨y3, nm, us, ds, rfl, kn, kw, hAll, rfl, hs1, hg, hnd, hn6, hiff⟩, le'⟩
  have hlen := dpAll_length hAll
  refine ⟨_, rfl, _, .inl ⟨us, sql kw, rfl⟩, ?_⟩
  by_cases hne : us = []
  · subst hne
    refine iteF ?_
    have e0 : ds = [] := List.length_eq_zero_iff.mp hlen.symm
    subst e0
    have q' := q H' le'
    have e1 : isRigB d = true := by
      refine decide_eq_true (hiff.mp ⟨?_, ?_, ?_⟩)
      · simp [leafPL]
      · simpa [leafPL] using hn6
      · rw [leafPL, List.append_nil]
        exact List.Pairwise.map some (fun a b h e => h (Option.some.inj e)) hnd
    rw [e1] at q'
    exact q'
  · have ene : (!us.isEmpty) = true := by
      cases us with
      | nil => exact absurd rfl hne
      | cons _ _ => rfl
    rw [ene]
    obtain ⟨ur, u, dr, e, rfl, rfl, hAr, hu⟩ := split_last hAll hne
    rw [goodL_all] at hg
    have hge : goodD e = true := hg e (by simp)
    have hgr : goodL dr = true := goodL_all.mpr fun x hx => hg x (by simp [hx])
    rw [sizeL_last] at hs1
    have hep := sizeD_pos e
    refine iteT ⟨fun σ2 H2 => ∃ m', m' < sizeL (dr ++ [e]) ∧ IsRigW K H v d nl wt m' σ2 H2, fun _ _ h => h, ?_⟩
    -- part = waiting.pop()
    refine ⟨_, rfl, .inl ⟨rfl, _, sql kw⟩, wt, _, u, rfl, rfl, kw, by simp, ?_⟩
    have edl : (ur ++ [u]).dropLast = ur := by simp
    have kw2 : upd H' wt (.lst (ur ++ [u]).dropLast) wt = some (.lst ur) := by rw [upd_same, edl]
    have kn2 : upd H' wt (.lst (ur ++ [u]).dropLast) nl = some (.lst (nm.map V.str)) := (upd_ne nwn).trans kn
    have le2 : Le H (upd H' wt (.lst (ur ++ [u]).dropLast)) := le'.mut hwH
    generalize upd H' wt (.lst (ur ++ [u]).dropLast) = H2 at kw2 kn2 le2
    -- is_strand(part)
    refine ⟨_, rfl, u, e, rfl, le2.dp hu, hge, le2.tab _ hT, fun H3 le3 => ?_⟩
    have kw3 := le3.lst kw2
    have kn3 := le3.lst kn2
    have le3' := le2.trans le3
    refine ⟨_, rfl, ?_⟩
    cases hst : strandD e with
    | true =>
      refine iteT ?_
      obtain ⟨n, p, w, rfl⟩ := strand_shape hst
      have elf : leafPL (dr ++ [.tuple [.str n, p, w]]) = leafPL dr ++ [some n] := by
        rw [leafPL_append, leafPL, leafPL, leafP_strand hst, List.append_nil]
        rfl
      rw [elf] at hiff
      cases hu with
      | @tup a xs _ hS hA3 =>
      obtain ⟨x, y, z, n', p', w', rfl, e3, h1, h2, h3⟩ := dpAll3 hA3 rfl
      cases e3
      cases h1
      have hS3 := le3'.sqt hS
      refine ⟨_, rfl, a, _, _, _, rfl, rfl, hS3, atI_nat (j := 0) rfl, _, rfl, nl, _, rfl, .inl (sql kn3), rfl, all_flat nm, _, rfl, ?_⟩
      have ein : (if false = true then !inV (.str n) (nm.map V.str) else inV (.str n) (nm.map V.str)) = decide (n ∈ nm) := by rw [if_neg Bool.false_ne_true, inV_str]
      rw [ein]
      by_cases hin : n ∈ nm
      · rw [decide_eq_true hin]
        refine iteT ?_
        have q' := q H3 le3'
        have e1 : isRigB d = false := decide_eq_false fun z => dup_in hin (hiff.mpr z)
        rw [e1] at q'
        exact iteT q'
      · rw [decide_eq_false hin]
        refine iteF ⟨_, rfl, nl, _, rfl, .inl (sql kn3), rfl, _, rfl, ?_⟩
        by_cases h6 : nm.length = 6
        · have e6 : decide (V.int (((nm.map V.str).length : Nat) : Int) = V.int 6) = true := by
            rw [List.length_map, h6]
            rfl
          rw [e6]
          refine iteT ?_
          have q' := q H3 le3'
          have e1 : isRigB d = false := decide_eq_false fun z => by
            have z2 := (hiff.mpr z).2.1
            rw [List.length_append, List.length_append, List.length_map, List.length_singleton] at z2
            omega
          rw [e1] at q'
          exact q'
        · have e6 : decide (V.int (((nm.map V.str).length : Nat) : Int) = V.int 6) = false := by
            refine decide_eq_false fun z => h6 ?_
            rw [List.length_map] at z
            injection z with z
            omega
          rw [e6]
          refine iteF ?_
          refine ⟨_, rfl, .inl ⟨rfl, _, sql kn3⟩, _, rfl, a, _, _, _, rfl, rfl, hS3, atI_nat (j := 0) rfl, nl, _, _, rfl, rfl, kn3, szlt (by rw [List.length_map]; omega), ?_⟩
          refine ⟨sizeL dr, by rw [sizeL_last]; omega, ⟨⟨_, nm ++ [n], ur, dr, rfl, ?_, (upd_ne nwn.symm).trans kw3, hAr, rfl, by omega, hgr, ?_, ?_, ?_⟩, le3'.mut hnl⟩⟩
          · rw [upd_same, List.map_append]
            rfl
          · rw [List.nodup_append]
            exact ⟨hnd, List.nodup_cons.mpr ⟨by simp, List.nodup_nil⟩, fun x hx y hy e => hin (by rw [List.mem_singleton.mp hy] at e; rw [← e]; exact hx)⟩
          · rw [List.length_append, List.length_singleton]
            omega
          · rw [← hiff]
            refine OkN.perm ?_
            rw [List.map_append, List.append_assoc]
            exact List.Perm.append_left _ List.perm_append_comm
    | false =>
      refine iteF ?_
      refine ⟨_, rfl, u, _, _, _, _, rfl, .ty "tuple", dp_ty (le3'.dp hu), kit_ty (kit_tuple e), _, rfl, ?_⟩
      have bad : (∀ es, e = .tuple es → es.length < 2) → Q (.bl false) H3 := fun hb => by
        have q' := q H3 le3'
        have e1 : isRigB d = false := decide_eq_false fun z => by
          have z2 := (hiff.mpr z).1
          rw [leafPL_append, leafPL, leafPL, leafP_else hst hb] at z2
          simp at z2
        rw [e1] at q'
        exact q'
      cases e with
      | tuple es =>
        cases hu with
        | @tup a xs _ hS hA3 =>
        have hl3 := dpAll_length hA3
        refine iteT ⟨_, rfl, a, _, rfl, .inr (le3'.sqt hS), _, _, rfl, rfl, _, rfl, ?_⟩
        by_cases h2 : 2 ≤ es.length
        · have e2 : decide ((((xs.length : Nat) : Int)) ≥ 2) = true := decide_eq_true (by omega)
          rw [e2]
          have hxl : ur.length + xs.length ≤ 2000 := by
            have := sizeL_len dr
            have := sizeL_len es
            have := dpAll_length hAr
            rw [sizeD] at hs1
            omega
          refine iteT ⟨_, rfl, .inl ⟨rfl, _, sql kw3⟩, _, rfl, wt, a, _, _, rfl, rfl, kw3, le3'.sqt hS, sz (by omega), ?_⟩
          refine ⟨sizeL (dr ++ es), by rw [sizeL_last, sizeL_append, sizeD]; omega, ⟨⟨_, nm, ur ++ xs, dr ++ es, rfl, (upd_ne nwn).trans kn3, upd_same, dpAll_append hAr hA3, rfl, ?_, ?_, hnd, hn6, ?_⟩, le3'.mut hwH⟩⟩
          · rw [sizeL_append]
            rw [sizeD] at hs1
            omega
          · rw [goodL_all]
            intro x hx
            rcases List.mem_append.mp hx with hx | hx
            · exact goodL_mem hgr hx
            · rw [goodD] at hge
              exact goodL_mem hge hx
          · rw [← hiff, leafPL_append, leafPL_append, leafPL, leafPL, leafP_node hst h2, List.append_nil]
        · have e2 : decide ((((xs.length : Nat) : Int)) ≥ 2) = false := decide_eq_false (by omega)
          rw [e2]
          exact iteF (bad fun es' he => by cases he; omega)
      | int i => exact iteF (bad fun es' he => by cases he)
      | bool b => exact iteF (bad fun es' he => by cases he)
      | none => exact iteF (bad fun es' he => by cases he)
      | list xs => exact iteF (bad fun es' he => by cases he)
      | str xs => exact iteF (bad fun es' he => by cases he)
      | dict kvs => exact iteF (bad fun es' he => by cases he)
end
end Wr

set_option Elab.async false
set_option linter.all false
set_option maxRecDepth 100000
set_option maxHeartbeats 2000000
namespace Wr
open PySem PySem.Spec PyProof.Rows L2
/-! ### the leaves, as the law reads them -/
def headStr : List PyData → Option Str
  | .str z :: _ => some z
  | _ => none
mutual
def leafN : PyData → List (Option Str)
  | .tuple xs => if xs.length < 2 then [none] else match headStr xs with
    | some z => if strandD (.tuple xs) = true then [some z] else [none]
    | none => leafNL xs
  | _ => [none]
def leafNL : List PyData → List (Option Str)
  | [] => []
  | d :: r => leafN d ++ leafNL r
end
theorem leafNL_append (xs ys : List PyData) : leafNL (xs ++ ys) = leafNL xs ++ leafNL ys := by
  induction xs with
  | nil => rfl
  | cons e r ih => rw [List.cons_append, leafNL, leafNL, ih, List.append_assoc]
mutual
theorem leafN_len : ∀ d : PyData, (leafN d).length ≤ sizeD d
  | .tuple xs => by
    rw [leafN, sizeD]
    split
    · rw [List.length_singleton]; omega
    · split
      · split <;> (rw [List.length_singleton]; omega)
      · have := leafNL_len xs
        omega
  | .none => by simp [leafN, sizeD]
  | .bool _ => by simp [leafN, sizeD]
  | .int _ => by simp [leafN, sizeD]
  | .str _ => by simp [leafN, sizeD]
  | .list _ => by simp [leafN, sizeD]
  | .dict _ => by simp [leafN, sizeD]
theorem leafNL_len : ∀ ds : List PyData, (leafNL ds).length ≤ sizeL ds
  | [] => by simp [leafNL]
  | d :: r => by
    rw [leafNL, List.length_append, sizeL]
    have := leafN_len d
    have := leafNL_len r
    omega
end
def nvO : Option Str → V
  | none => .non
  | some n => .str n
def alphaL : List Nat := ("abcdefghijklmnopqrstuvwxyz" : Str).cps.toList
theorem alpha_eq : alphaL = (List.range 26).map (97 + ·) := by decide +kernel
theorem az_alpha (c : Nat) : azB c = decide (c ∈ alphaL) := by
  rw [alpha_eq, Bool.eq_iff_iff, decide_eq_true_iff, List.mem_map]
  unfold azB
  rw [Bool.and_eq_true, decide_eq_true_iff, decide_eq_true_iff]
  constructor
  · intro ⟨h1, h2⟩
    exact ⟨c - 97, List.mem_range.mpr (by omega), by omega⟩
  · rintro ⟨k, hk, rfl⟩
    have := List.mem_range.mp hk
    omega
def badC (z : List Nat) : List Nat := z.filter fun c => !decide (c ∈ alphaL)
theorem badC_nil (z : List Nat) : (badC z).isEmpty = z.all azB := by
  unfold badC
  induction z with
  | nil => rfl
  | cons c r ih =>
    rw [List.all_cons, az_alpha c, List.filter_cons]
    cases decide (c ∈ alphaL) with
    | true => simpa using ih
    | false => simp
def signD (c : Nat) : PyData := .str ⟨#[c]⟩
theorem eqv_signs (cs : List Nat) : PyData.eqv (.list (cs.map signD)) (.list []) = cs.isEmpty := by
  cases cs with
  | nil => rw [PyData.eqv, List.map_nil, PyData.eqvAll]; rfl
  | cons c r => rw [PyData.eqv, List.map_cons, PyData.eqvAll]; rfl
theorem shaped_signs {cs : List Nat} (h : ∀ c ∈ cs, c < 0x110000) : SeqAt.shaped (.list (cs.map signD)) = true := by
  have e1 : ∀ cs : List Nat, (∀ c ∈ cs, c < 0x110000) → PyData.canLayAll0 (cs.map signD) = true ∧ PyData.depthAll (cs.map signD) = 0 := by
    intro cs
    induction cs with
    | nil => exact fun _ => ⟨by rw [List.map_nil, PyData.canLayAll0], by rw [List.map_nil, PyData.depthAll]⟩
    | cons c r ih =>
      intro hc
      obtain ⟨i1, i2⟩ := ih fun x hx => hc x (List.mem_cons_of_mem _ hx)
      rw [List.map_cons, PyData.canLayAll0, PyData.depthAll, i1, i2]
      refine ⟨?_, by simp [signD, PyData.depth]⟩
      rw [signD, PyData.canLay0, Bool.and_true]
      show Array.all #[c] (fun x => decide (x < 0x110000)) = true
      simp [hc c (List.mem_cons_self ..)]
  obtain ⟨i1, i2⟩ := e1 cs h
  unfold SeqAt.shaped
  rw [PyData.canLay0, i1, PyData.depth, i2]
  rfl
theorem shaped_nil : SeqAt.shaped (.list []) = true := shaped_signs (cs := []) (by simp)
section
variable {P : Program} {w : World} {K : PySem.W.Frag} {mg : Str → Option Value} {base : Heap}
def spLeafN (K : PySem.W.Frag) (n : Nat) : Sp := fun vs H Q _ => ∃ (v : V) (d : PyData), vs = [v] ∧ Dp K H v d ∧ goodD d = true ∧ sizeD d ≤ n ∧ n ≤ 1000 ∧ ∀ (p : Addr) (H' : Hp), Le H H' → H p = none → H' p = some (.lst ((leafN d).map nvO)) → Q (.ref p) H'
theorem dp_signs {H : Hp} (cs : List Nat) : DpAll K H (cs.map fun c => V.str ⟨#[c]⟩) (cs.map signD) := by
  induction cs with
  | nil => exact .nil
  | cons c r ih => exact .cons (.str _) ih
theorem ok_leafN (G : Gx K mg) (k : Nat) : ∀ n : Nat, FnOk P w K mg base CX0 (n + k + 1) G.f__law_leaf_names G.fd__law_leaf_names ["value"] (spLeafN K n)
  | 0 => by
    have no : ∀ vs H Q E, ¬ spLeafN K 0 vs H Q E := fun vs H Q E h => by
      obtain ⟨v, d, _, _, _, h1, _⟩ := h
      have := sizeD_pos d
      omega
    exact ⟨fun vs H Q E h => absurd h (no vs H Q E), fun A outer s H args us vs Q E _ _ _ _ h => absurd h (no vs H Q E)⟩
  | n + 1 => by
    have G__law_leaf_names := ok_leafN G k n
    have G__law_is_integer : FnOk P w K mg base CX0 (n + k + 1) G.f__law_is_integer G.fd__law_is_integer ["value", "low", "high"] (spBetween K) := ok_isint G (n + k)
    have lev : n + 1 + k + 1 = (n + k + 1) + 1 := by omega
    rw [lev]
    refine G.F__law_leaf_names.ok sc__law_leaf_names (fun vs H Q E h => ?_) (fun cdv A outer s H vs Q E hr h => ?_)
    · obtain ⟨v, d, rfl, _⟩ := h
      rfl
    obtain ⟨v, d, rfl, hd, hz, hsz, hn, q⟩ := h
    refine ⟨_, (pss_cons (ps_if (PW.pt (pw_or (pt_not (pt_val (pe_callB call_isi (by rfl) G.isinstance (by decide +kernel) (pa_cons (pv 0) (pa_cons (pe_bltn (v := .ty "tuple") (u := .type "tuple") (by rfl) G.tuple (by decide +kernel) rfl) pa_nil))))) (pw_or1 (pt_cmpR op_lt (pe_callB call_len_seq (by rfl) G.len PySem.boot_len (pa_cons (pv 0) pa_nil)) pe_int (nomark _))))) (pss_one (ps_ret (pe_lst (pa_cons pe_non pa_nil)))) pss_nil)
    (pss_cons (ps_if (pt_val (pe_callB call_isi (by rfl) G.isinstance (by decide +kernel) (pa_cons (pe_ix ix_tup (pv 0) pe_int (fun _ _ => rfl)) (pa_cons (pe_bltn (v := .ty "str") (u := .type "str") (by rfl) G.str (by decide +kernel) rfl) pa_nil)))) (pss_cons (ps_setLc (i := 1) (own := [("char", 5)]) (g := gName 5) (by rfl) sc__law_leaf_names.nd rfl rfl (sw_true rfl rfl rfl (by decide +kernel)) (pi_str (pe_ix ix_tup (pv 0) pe_int (fun _ _ => rfl))) (blkOk_by (own := [("char", 5)]) (N := N__law_leaf_names) (sc := defScope s__law_leaf_names) (by decide +kernel)) (fun _ _ _ _ _ => (pg_name (i := 5) sc__law_leaf_names.nd rfl (.inl rfl) (.inr rfl))) (fun _ _ _ _ _ => (pts_one (pt_cmpR op_notIn_sign (pv 5) pe_str (by rfl)))) (fun _ _ _ _ _ => (pv 5)))
    (Evl.pss_cut (ps_set (i := 2) sc__law_leaf_names.nd rfl (.inl rfl) (pe_and (pe_cmpR op_eq (pe_callB call_len_seq (by rfl) G.len PySem.boot_len (pa_cons (pv 0) pa_nil)) pe_int (nomark _)) (pe_and (pe_cmpR (op_eqD hr.units) (pv 1) (pe_lst pa_nil) (nomark _)) (pe_one (pe_chain op_le op_le pe_int (pe_callB call_len_str (by rfl) G.len PySem.boot_len (pa_cons (pe_ix ix_tup (pv 0) pe_int (fun _ _ => rfl)) pa_nil)) pe_int)))))
    (Evl.pss_cut (ps_set (i := 2) sc__law_leaf_names.nd rfl (.inl rfl) (pe_and (pv 2) (pe_and (pe_call G__law_is_integer hr (by rfl) G.m__law_is_integer G.F__law_is_integer.kp G.b__law_is_integer .nil pass0 (pa_cons (pe_ix ix_tup (pv 0) pe_int (fun _ _ => rfl)) (pa_cons pe_int (pa_cons pe_int pa_nil)))) (pe_one (pe_call G__law_is_integer hr (by rfl) G.m__law_is_integer G.F__law_is_integer.kp G.b__law_is_integer .nil pass0 (pa_cons (pe_ix ix_tup (pv 0) pe_int (fun _ _ => rfl)) (pa_cons pe_int (pa_cons pe_int pa_nil))))))))
    (pss_one (ps_ret (pe_ifExp (pt_val (pv 2)) (pe_lst (pa_cons (pe_ix ix_tup (pv 0) pe_int (fun _ _ => rfl)) pa_nil)) (pe_lst (pa_cons pe_non pa_nil)))))))) pss_nil)
    (pss_cons (ps_set (i := 3) sc__law_leaf_names.nd rfl (.inl rfl) (pe_lst pa_nil))
    (pss_cons (ps_for PassesOwn.never rfl (pi_tup (pv 0)) (pg_name (i := 4) sc__law_leaf_names.nd rfl (.inl rfl))
      (pss_one (ps_set (i := 3) sc__law_leaf_names.nd rfl (.inl rfl) (pe_op op_cat (pv 3) (pe_call G__law_leaf_names hr (by rfl) G.m__law_leaf_names G.F__law_leaf_names.kp G.b__law_leaf_names .nil pass0 (pa_cons (pv 4) pa_nil))))))
    (pss_one (ps_ret (pv 3))))))), ?_⟩
    refine ⟨_, rfl, v, _, _, _, _, rfl, .ty "tuple", dp_ty hd, kit_ty (kit_tuple d), _, rfl, ?_⟩
    have one : leafN d = [none] → ∀ p, H p = none → Q (.ref p) (upd H p (.lst [.non])) := fun e p hp => q p _ (Le.new hp) hp (by rw [e]; exact upd_same)
    cases d with
    | tuple ds =>
      cases hd with
      | @tup a xs _ hS hAll =>
      have hlen := dpAll_length hAll
      refine iteF ⟨_, rfl, a, _, rfl, .inr hS, _, _, rfl, rfl, _, rfl, ?_⟩
      by_cases h2 : ds.length < 2
      · have e2 : decide (((xs.length : Nat) : Int) < 2) = true := decide_eq_true (by omega)
        rw [e2]
        exact iteT ⟨(by decide : 1 ≤ sizeLine), one (by rw [leafN, if_pos h2])⟩
      have e2 : decide (((xs.length : Nat) : Int) < 2) = false := decide_eq_false (by omega)
      rw [e2]
      refine iteF ?_
      obtain ⟨x0, d0, xr, dr, rfl, rfl, hd0, hAr⟩ : ∃ x0 d0 xr dr, xs = x0 :: xr ∧ ds = d0 :: dr ∧ Dp K H x0 d0 ∧ DpAll K H xr dr := by
        cases hAll with
        | nil => exact absurd (by decide : (0 : Nat) < 2) h2
        | cons h r => exact ⟨_, _, _, _, rfl, rfl, h, r⟩
      rw [goodD, goodL_all] at hz
      refine ⟨_, rfl, a, _, _, _, rfl, rfl, hS, atI_nat (j := 0) rfl, x0, _, _, _, _, rfl, .ty "str", dp_ty hd0, kit_ty (kit_str d0), _, rfl, ?_⟩
      cases hh : isStrD d0 with
      | true =>
        obtain ⟨z, rfl⟩ : ∃ z, d0 = .str z := by
          cases d0 with
          | str z => exact ⟨z, rfl⟩
          | _ => cases hh
        cases hd0
        have hz0 := hz (.str z) (List.mem_cons_self ..)
        rw [goodD, Bool.and_eq_true, decide_eq_true_iff] at hz0
        obtain ⟨zl, zo⟩ := hz0
        refine iteT ⟨_, rfl, a, _, _, _, rfl, rfl, hS, atI_nat (j := 0) rfl, z, rfl, fun D hD => ?_⟩
        refine lc_it walk_str (fun i H' => Le H H' ∧ H' D = some (.lst ((badC (z.cps.toList.take i)).map fun c => V.str ⟨#[c]⟩))) ⟨Le.new hD, upd_same⟩ (fun _ _ _ _ => trivial) ?_ ?_
        · rintro i x H1 H2 hi ⟨l1, k1⟩ ⟨rfl, c, hc, rfl⟩
          have hc' : z.cps.toList[i]? = some c := by rw [Array.getElem?_toList]; exact hc
          have et : z.cps.toList.take (i + 1) = z.cps.toList.take i ++ [c] := by rw [List.take_add_one, hc']; rfl
          refine ⟨rfl, _, rfl, c, _, rfl, rfl, _, rfl, ?_⟩
          have eb : badC (z.cps.toList.take (i + 1)) = badC (z.cps.toList.take i) ++ if (!decide (c ∈ alphaL)) = true then [c] else [] := by
            rw [et]
            unfold badC
            rw [List.filter_append, List.filter_cons, List.filter_nil]
          by_cases hc2 : (!decide (c ∈ alphaL)) = true
          · rw [if_pos hc2] at eb
            refine (if_pos hc2).mpr ?_
            refine ⟨_, rfl, _, k1, ?_, l1.mut hD, ?_⟩
            · refine szlt ?_
              have b1 : (badC (z.cps.toList.take i)).length ≤ i := by
                unfold badC
                exact Nat.le_trans (List.length_filter_le ..) (by rw [List.length_take]; omega)
              have b2 : z.cps.size ≤ 1000 := zl
              rw [List.length_map]
              omega
            · rw [upd_same, eb, List.map_append]
              rfl
          · rw [if_neg hc2, List.append_nil] at eb
            refine (if_neg hc2).mpr ⟨l1, ?_⟩
            rw [eb]
            exact k1
        · rintro H1 ⟨l1, k1⟩
          have et : z.cps.toList.take z.cps.size = z.cps.toList := by rw [← Array.length_toList, List.take_length]
          rw [et] at k1
          -- valid
          refine ⟨fun σ' H' => ∃ y3 y4 y5, σ' = [some (.ref a), some (.ref D), some (.bl (decide ((V.str z :: xr).length = 3) && nameB z)), y3, y4, y5] ∧ Le H H', ?_, fun σ' H' hM => ?_⟩
          · refine ⟨_, rfl, a, _, rfl, .inr (l1.sqt hS), rfl, _, rfl, ?_⟩
            by_cases h3 : (V.str z :: xr).length = 3
            · have e3 : decide (V.int (((V.str z :: xr).length : Nat) : Int) = V.int 3) = true := by rw [h3]; rfl
              rw [e3, decide_eq_true h3]
              refine iteT ⟨_, rfl, Nat.zero_le _, fun pe hpe => ?_⟩
              have l2 := Le.new (o := .lst []) hpe
              refine ⟨.list ((badC z.cps.toList).map signD), .list [], .lst (sql (l2.lst k1)) (dp_signs _), .lst (sql upd_same) .nil, ?_, shaped_nil, ?_⟩
              · refine shaped_signs fun c hc => ?_
                unfold badC at hc
                have hc1 := (List.mem_filter.mp hc).1
                have zo' : z.cps.all (fun x => decide (x < 0x110000)) = true := zo
                rw [Array.all_eq_true'] at zo'
                exact of_decide_eq_true (zo' c (by simpa using hc1))
              rw [eqv_signs, badC_nil]
              refine ⟨_, rfl, ?_⟩
              have lz := l1.trans l2
              generalize upd H1 pe (.lst []) = H3 at lz
              cases ha : z.cps.toList.all azB with
              | false =>
                refine iteF ⟨none, none, none, ?_, lz⟩
                unfold nameB
                rw [ha, Bool.and_false]
                rfl
              | true =>
                refine iteT ⟨_, rfl, a, _, _, _, rfl, rfl, lz.sqt hS, atI_nat (j := 0) rfl, z, rfl, sz (by omega), _, _, rfl, rfl, _, rfl, ?_⟩
                have en : nameB z = (decide (1 ≤ z.length) && decide (z.length ≤ 8)) := by unfold nameB; rw [ha, Bool.and_true]
                rw [en]
                by_cases g1 : 1 ≤ z.length
                · have c1 : decide ((1 : Int) ≤ (z.length : Int)) = true := decide_eq_true (by omega)
                  rw [c1, decide_eq_true g1]
                  refine iteT ⟨_, _, rfl, rfl, none, none, none, ?_, lz⟩
                  have c2 : decide ((z.length : Int) ≤ 8) = decide (z.length ≤ 8) := by
                    rw [Bool.eq_iff_iff, decide_eq_true_iff, decide_eq_true_iff]
                    omega
                  dsimp only
                  rw [c2]
                  rfl
                · have c1 : decide ((1 : Int) ≤ (z.length : Int)) = false := decide_eq_false (by omega)
                  rw [c1, decide_eq_false g1]
                  exact iteF ⟨none, none, none, rfl, lz⟩
            · have e3 : decide (V.int (((V.str z :: xr).length : Nat) : Int) = V.int 3) = false := decide_eq_false fun e => h3 (by injection e with e; omega)
              rw [e3, decide_eq_false h3]
              exact iteF ⟨none, none, none, rfl, l1⟩
          obtain ⟨y3, y4, y5, rfl, lM⟩ := hM
          refine ⟨fun σ' H' => ∃ y3 y4 y5, σ' = [some (.ref a), some (.ref D), some (.bl (strandD (.tuple (.str z :: dr)))), y3, y4, y5] ∧ Le H H', ?_, fun σ' H' hM => ?_⟩
          · refine ⟨_, rfl, _, rfl, ?_⟩
            by_cases h3 : (V.str z :: xr).length = 3
            · obtain ⟨x, y, w0, n0, p0, w1, e4, e5, h1', hp', hw'⟩ := dpAll3 (.cons (.str z) hAr) (by rw [← hlen]; exact h3)
              cases e4
              cases e5
              rw [decide_eq_true h3, Bool.true_and]
              cases hnb : nameB z with
              | false =>
                refine iteF ⟨y3, y4, y5, ?_, lM⟩
                show _ = [_, _, some (V.bl (nameD (.str z) && betwD p0 1 99 && betwD w1 0 20)), _, _, _]
                rw [show nameD (.str z) = false from hnb]
                rfl
              | true =>
                refine iteT ⟨_, rfl, a, _, _, _, rfl, rfl, lM.sqt hS, atI_nat (j := 1) rfl, _, p0, 1, 99, rfl, lM.dp hp', _, rfl, ?_⟩
                cases hb1 : betwD p0 1 99 with
                | false =>
                  refine iteF ⟨y3, y4, y5, ?_, lM⟩
                  show _ = [_, _, some (V.bl (nameD (.str z) && betwD p0 1 99 && betwD w1 0 20)), _, _, _]
                  rw [show nameD (.str z) = true from hnb, hb1]
                  rfl
                | true =>
                  refine iteT ⟨_, rfl, a, _, _, _, rfl, rfl, lM.sqt hS, atI_nat (j := 2) rfl, _, w1, 0, 20, rfl, lM.dp hw', y3, y4, y5, ?_, lM⟩
                  show _ = [_, _, some (V.bl (nameD (.str z) && betwD p0 1 99 && betwD w1 0 20)), _, _, _]
                  rw [show nameD (.str z) = true from hnb, hb1]
                  rfl
            · rw [decide_eq_false h3, Bool.false_and]
              refine iteF ⟨y3, y4, y5, ?_, lM⟩
              rw [strandD_len (fun e => h3 (by rw [hlen]; exact e))]
              rfl
          obtain ⟨y3, y4, y5, rfl, lN⟩ := hM
          refine ⟨_, rfl, _, rfl, ?_⟩
          have el : leafN (.tuple (.str z :: dr)) = if strandD (.tuple (.str z :: dr)) = true then [some z] else [none] := by
            rw [leafN, if_neg h2]
            rfl
          cases hst : strandD (.tuple (.str z :: dr)) with
          | true =>
            rw [hst, if_pos rfl] at el
            refine iteT ⟨_, rfl, a, _, _, _, rfl, rfl, lN.sqt hS, atI_nat (j := 0) rfl, (by decide : 1 ≤ sizeLine), fun p hp => ?_⟩
            exact q p _ (lN.trans (Le.new hp)) (lN.dom _ hp) (by rw [el]; exact upd_same)
          | false =>
            rw [hst, if_neg (by decide)] at el
            refine iteF ⟨(by decide : 1 ≤ sizeLine), fun p hp => ?_⟩
            exact q p _ (lN.trans (Le.new hp)) (lN.dom _ hp) (by rw [el]; exact upd_same)
      | false =>
        refine iteF ?_
        have eh : headStr (d0 :: dr) = none := by
          cases d0 with
          | str z => cases hh
          | _ => rfl
        have el : leafN (.tuple (d0 :: dr)) = leafNL (d0 :: dr) := by
          rw [leafN, if_neg h2, eh]
        refine ⟨Nat.zero_le _, fun p0 hp0 => ?_⟩
        refine ⟨_, rfl, a, rfl, ⟨_, (Le.new hp0).sqt hS⟩, ?_⟩
        refine for_tup (xs := x0 :: xr) (fun i σ' H' => ∃ (p : Addr) (y1 y2 y4 y5 : Option V), σ' = [some (.ref a), y1, y2, some (.ref p), y4, y5] ∧ Le H H' ∧ H p = none ∧ H' p = some (.lst ((leafNL ((d0 :: dr).take i)).map nvO))) ?_ ?_ ?_ ?_
        · exact ⟨p0, none, none, none, none, rfl, Le.new hp0, hp0, upd_same⟩
        · rintro i σ' H' _ ⟨p, y1, y2, y4, y5, _, l1, _⟩
          exact l1.sqt hS
        · rintro i x σ' H' hx ⟨p, y1, y2, y4, y5, rfl, l1, hp, kp⟩
          obtain ⟨d, hdi, hdx⟩ := dpAll_getV (.cons hd0 hAr) hx
          have hdm : d ∈ d0 :: dr := List.mem_of_getElem? hdi
          have hs1 := sizeL_mem hdm
          rw [sizeD] at hsz
          refine ⟨_, rfl, _, rfl, x, d, rfl, l1.dp hdx, hz d hdm, by omega, by omega, fun p2 H2 l2 hp2 kp2 => ?_⟩
          have et : (d0 :: dr).take (i + 1) = (d0 :: dr).take i ++ [d] := by rw [List.take_add_one, hdi]; rfl
          have el2 : leafNL ((d0 :: dr).take (i + 1)) = leafNL ((d0 :: dr).take i) ++ leafN d := by
            rw [et, leafNL_append, leafNL, leafNL, List.append_nil]
          have bl : (leafNL ((d0 :: dr).take (i + 1))).length ≤ 1000 := by
            have b1 := leafNL_len ((d0 :: dr).take (i + 1))
            have b2 : sizeL ((d0 :: dr).take (i + 1)) ≤ sizeL (d0 :: dr) := by
              have := sizeL_append ((d0 :: dr).take (i + 1)) ((d0 :: dr).drop (i + 1))
              rw [List.take_append_drop] at this
              omega
            omega
          rw [el2, List.length_append] at bl
          refine ⟨p, p2, _, _, rfl, rfl, l2.lst kp, kp2, sz (by rw [List.length_map, List.length_map]; omega), fun p3 hp3 => ?_⟩
          have l3 := l1.trans (l2.trans (Le.new (o := .lst ((leafNL ((d0 :: dr).take i)).map nvO ++ (leafN d).map nvO)) hp3))
          refine ⟨p3, _, _, _, _, rfl, l3, (l1.trans l2).dom _ hp3, ?_⟩
          rw [upd_same, el2, List.map_append]
        · rintro σ' H' ⟨p, y1, y2, y4, y5, rfl, l1, hp, kp⟩
          rw [hlen] at kp
          rw [show (d0 :: dr).take (d0 :: dr).length = d0 :: dr from List.take_length] at kp
          exact ⟨_, rfl, q p H' l1 hp (by rw [el]; exact kp)⟩
    | int i => exact iteT (iteT ⟨(by decide : 1 ≤ sizeLine), one (by simp [leafN])⟩)
    | bool b => exact iteT (iteT ⟨(by decide : 1 ≤ sizeLine), one (by simp [leafN])⟩)
    | none => exact iteT (iteT ⟨(by decide : 1 ≤ sizeLine), one (by simp [leafN])⟩)
    | list xs => exact iteT (iteT ⟨(by decide : 1 ≤ sizeLine), one (by simp [leafN])⟩)
    | str xs => exact iteT (iteT ⟨(by decide : 1 ≤ sizeLine), one (by simp [leafN])⟩)
    | dict kvs => exact iteT (iteT ⟨(by decide : 1 ≤ sizeLine), one (by simp [leafN])⟩)
end
end Wr

set_option Elab.async false
set_option linter.all false
set_option maxRecDepth 100000
set_option maxHeartbeats 2000000
namespace Wr
open PySem PySem.Spec PyProof.Rows L2
/-! ### the two readings of the leaves agree where it counts -/
theorem leafP_str (z : Str) : leafP (.str z) = [none] := by simp [leafP]
theorem none_of_str {z : Str} {dr : List PyData} : none ∈ leafPL (.str z :: dr) := by
  rw [leafPL, leafP_str]
  simp
theorem strand_name {z : Str} {dr : List PyData} (h : strandD (.tuple (.str z :: dr)) = true) : nameOf (.tuple (.str z :: dr)) = z := rfl
mutual
theorem leaf_both : ∀ d : PyData, (none ∈ leafN d ↔ none ∈ leafP d) ∧ (none ∉ leafN d → leafN d = leafP d)
  | .tuple xs => by
    by_cases h2 : xs.length < 2
    · have e1 : leafN (.tuple xs) = [none] := by rw [leafN, if_pos h2]
      have hs : strandD (.tuple xs) = false := strandD_len (by omega)
      have e2 : leafP (.tuple xs) = [none] := leafP_else hs fun ds e => by cases e; exact h2
      rw [e1, e2]
      exact ⟨Iff.rfl, fun _ => rfl⟩
    · cases hh : headStr xs with
      | some z =>
        obtain ⟨dr, rfl⟩ : ∃ dr, xs = .str z :: dr := by
          unfold headStr at hh
          split at hh
          · cases hh
            exact ⟨_, rfl⟩
          · cases hh
        have e1 : leafN (.tuple (.str z :: dr)) = if strandD (.tuple (.str z :: dr)) = true then [some z] else [none] := by
          rw [leafN, if_neg h2]
          rfl
        cases hs : strandD (.tuple (.str z :: dr)) with
        | true =>
          rw [e1, leafP_strand hs, if_pos hs]
          exact ⟨Iff.rfl, fun _ => rfl⟩
        | false =>
          have e2 : leafP (.tuple (.str z :: dr)) = leafPL (.str z :: dr) := leafP_node hs (by omega)
          rw [e1, e2, if_neg (by rw [hs]; decide)]
          exact ⟨⟨fun _ => none_of_str, fun _ => by simp⟩, fun h => absurd (by simp) h⟩
      | none =>
        have e1 : leafN (.tuple xs) = leafNL xs := by rw [leafN, if_neg h2, hh]
        have hs : strandD (.tuple xs) = false := by
          cases hs : strandD (.tuple xs) with
          | false => rfl
          | true =>
            obtain ⟨n, p, w, e⟩ := strand_shape hs
            cases e
            cases hh
        have e2 : leafP (.tuple xs) = leafPL xs := leafP_node hs (by omega)
        rw [e1, e2]
        exact leaf_bothL xs
  | .none => by simp [leafN, leafP]
  | .bool _ => by simp [leafN, leafP]
  | .int _ => by simp [leafN, leafP]
  | .str _ => by simp [leafN, leafP]
  | .list _ => by simp [leafN, leafP]
  | .dict _ => by simp [leafN, leafP]
theorem leaf_bothL : ∀ ds : List PyData, (none ∈ leafNL ds ↔ none ∈ leafPL ds) ∧ (none ∉ leafNL ds → leafNL ds = leafPL ds)
  | [] => by simp [leafNL, leafPL]
  | d :: r => by
    have h1 := leaf_both d
    have h2 := leaf_bothL r
    rw [leafNL, leafPL, List.mem_append, List.mem_append, h1.1, h2.1]
    refine ⟨Iff.rfl, fun h => ?_⟩
    rw [h1.2 fun z => h (.inl (h1.1.mp z)), h2.2 fun z => h (.inr (h2.1.mp z))]
end
theorem ok_leaf (d : PyData) : OkN (leafN d) ↔ OkN (leafP d) := by
  by_cases h : none ∈ leafN d
  · exact ⟨fun z => absurd h z.1, fun z => absurd ((leaf_both d).1.mp h) z.1⟩
  · rw [(leaf_both d).2 h]
theorem names_of : ∀ ns : List (Option Str), none ∉ ns → ∃ xs : List Str, ns = xs.map some
  | [], _ => ⟨[], rfl⟩
  | none :: _, h => absurd (by simp) h
  | some n :: r, h => by
    obtain ⟨xs, e⟩ := names_of r fun z => h (List.mem_cons_of_mem _ z)
    exact ⟨n :: xs, by rw [e]; rfl⟩
theorem nv_some (xs : List Str) : (xs.map some).map nvO = xs.map V.str := by
  rw [List.map_map]
  rfl
theorem inV_non : ∀ ns : List (Option Str), inV .non (ns.map nvO) = decide (none ∈ ns)
  | [] => rfl
  | none :: r => by
    rw [decide_eq_true (by simp)]
    rfl
  | some n :: r => by
    have ih := inV_non r
    have e : decide ((none : Option Str) ∈ some n :: r) = decide (none ∈ r) := by
      rw [Bool.eq_iff_iff, decide_eq_true_iff, decide_eq_true_iff, List.mem_cons]
      simp
    rw [e, ← ih]
    rfl
theorem nv_flat (ns : List (Option Str)) : (ns.map nvO).all flatV = true := by
  rw [List.all_map, List.all_eq_true]
  intro x _
  cases x <;> rfl
section
variable {P : Program} {w : World} {K : PySem.W.Frag} {mg : Str → Option Value} {base : Heap}
def spLawRig (K : PySem.W.Frag) : Sp := fun vs H Q _ => ∃ (v : V) (d : PyData), vs = [v] ∧ Dp K H v d ∧ goodD d = true ∧ sizeD d ≤ 200 ∧ ∀ H', Le H H' → Q (.bl (isRigB d)) H'
theorem ok_lawrig (G : Gx K mg) (k : Nat) : FnOk P w K mg base CX0 (200 + k + 2) G.f__law_is_rig G.fd__law_is_rig ["value"] (spLawRig K) := by
  have G__law_leaf_names := ok_leafN (P := P) (w := w) (base := base) G k 200
  refine G.F__law_is_rig.ok sc__law_is_rig (fun vs H Q E h => ?_) (fun cdv A outer s H vs Q E hr h => ?_)
  · obtain ⟨v, d, rfl, _⟩ := h
    rfl
  obtain ⟨v, d, rfl, hd, hz, hsz, q⟩ := h
  refine ⟨_, (pss_cons (ps_set (i := 1) sc__law_is_rig.nd rfl (.inl rfl) (pe_call G__law_leaf_names hr (by rfl) G.m__law_leaf_names G.F__law_leaf_names.kp G.b__law_leaf_names .nil pass0 (pa_cons (pv 0) pa_nil)))
    (pss_one (ps_ret (pe_and (pe_cmpR op_notIn_seq pe_non (pv 1) (by rfl)) (pe_and (pe_cmpR op_le (pe_callB call_len_seq (by rfl) G.len PySem.boot_len (pa_cons (pv 1) pa_nil)) pe_int (nomark _)) (pe_one (pe_cmpR op_eq (pe_lenSetT rfl (by rfl) G.len (by rfl) G.set (pv 1)) (pe_callB call_len_seq (by rfl) G.len PySem.boot_len (pa_cons (pv 1) pa_nil)) (nomark _)))))))), ?_⟩
  refine ⟨_, rfl, v, d, rfl, hd, hz, hsz, by decide, fun p H' l1 hp kp => ?_⟩
  have q' := q H' l1
  have er : isRigB d = decide (OkN (leafN d)) := by
    unfold isRigB
    rw [Bool.eq_iff_iff, decide_eq_true_iff, decide_eq_true_iff, ok_leaf]
  refine ⟨_, rfl, p, _, rfl, .inl (sql kp), rfl, nv_flat _, _, rfl, ?_⟩
  have e0 : (if true = true then !inV .non ((leafN d).map nvO) else inV .non ((leafN d).map nvO)) = !decide (none ∈ leafN d) := by rw [if_pos rfl, inV_non]
  rw [e0]
  by_cases h0 : none ∈ leafN d
  · rw [decide_eq_true h0]
    rw [er, decide_eq_false fun z => z.1 h0] at q'
    exact iteF q'
  · rw [decide_eq_false h0]
    refine iteT ⟨_, rfl, p, _, rfl, .inl (sql kp), _, _, rfl, rfl, _, rfl, ?_⟩
    have el : ((leafN d).map nvO).length = (leafN d).length := List.length_map _
    by_cases h6 : (leafN d).length ≤ 6
    · have e6 : decide (((((leafN d).map nvO).length : Nat) : Int) ≤ 6) = true := decide_eq_true (by rw [el]; omega)
      rw [e6]
      obtain ⟨xs, ex⟩ := names_of _ h0
      rw [ex, nv_some] at kp
      have exl : xs.length ≤ 6 := by rw [ex, List.length_map] at h6; exact h6
      refine iteT ⟨_, rfl, p, xs, rfl, sql kp, by omega, _, rfl, p, _, rfl, .inl (sql kp), rfl, ?_⟩
      have e7 : decide (V.int ((once xs).length : Int) = V.int (((xs.map V.str).length : Nat) : Int)) = isRigB d := by
        rw [er, Bool.eq_iff_iff, decide_eq_true_iff, decide_eq_true_iff, List.length_map]
        have n1 : OkN (leafN d) ↔ xs.Nodup := by
          unfold OkN
          constructor
          · intro ⟨_, _, z⟩
            rw [ex] at z
            exact (List.pairwise_map.mp z).imp fun h e => h (congrArg some e)
          · intro z
            refine ⟨h0, h6, ?_⟩
            rw [ex]
            exact List.Pairwise.map some (fun a b h e => h (Option.some.inj e)) z
        rw [n1, ← once_nd]
        constructor
        · intro z
          injection z with z
          omega
        · intro z
          rw [z]
      rw [e7]
      exact q'
    · have e6 : decide (((((leafN d).map nvO).length : Nat) : Int) ≤ 6) = false := decide_eq_false (by rw [el]; omega)
      rw [e6]
      rw [er, decide_eq_false fun z => h6 z.2.1] at q'
      exact iteF q'
end
end Wr

set_option Elab.async false
set_option linter.all false
set_option maxRecDepth 100000
set_option maxHeartbeats 2000000
namespace Wr
open PySem PySem.Spec PyProof.Rows L2
/-! ### the places of a value -/
def itemsD : PyData → Option (List PyData)
  | .list xs => some xs
  | .tuple xs => some xs
  | _ => none
def VPath : PyData → List Nat → Prop
  | _, [] => True
  | d, i :: r => ∃ xs e, itemsD d = some xs ∧ xs[i]? = some e ∧ VPath e r
def isSeqD (d : PyData) : Bool := isListD d || isTupD d
theorem kit_seq {K : PySem.W.Frag} (d : PyData) : PySem.W.kitAny K (.type (tyN d)) [.type "list", .type "tuple"] = some (isSeqD d) := by
  refine kitAny_cons (b := isListD d) (kit_ty (kit_list d)) (fun hl => ?_) (fun hl => ?_)
  · unfold isSeqD
    rw [hl, Bool.false_or]
    exact kitAny_cons (b := isTupD d) (kit_ty (kit_tuple d)) (fun ht => by rw [ht]; exact kitAny_nil) (fun ht => ht)
  · unfold isSeqD
    rw [hl, Bool.true_or]
theorem seq_items {d : PyData} : isSeqD d = (itemsD d).isSome := by cases d <;> rfl
theorem size_items {d : PyData} {xs : List PyData} (h : itemsD d = some xs) : sizeD d = sizeL xs + 1 := by
  cases d <;> cases h <;> rw [sizeD]
theorem good_items {d : PyData} {xs : List PyData} (h : itemsD d = some xs) : goodD d = goodL xs := by
  cases d <;> cases h <;> rw [goodD]
theorem vpath_len : ∀ {path : List Nat} {d : PyData}, VPath d path → path.length < sizeD d
  | [], d, _ => sizeD_pos d
  | i :: r, d, h => by
    obtain ⟨xs, e, hi, he, hr⟩ := h
    have h1 := vpath_len hr
    have h2 := sizeL_mem (List.mem_of_getElem? he)
    rw [size_items hi, List.length_cons]
    omega
section
variable {K : PySem.W.Frag} {H H1 : Hp}
/-- a sequence's value: its address, its items -/
theorem dp_items {v : V} {d : PyData} {xs : List PyData} (h : Dp K H v d) (e : itemsD d = some xs) : ∃ a us, v = .ref a ∧ (SqL K H a us ∨ SqT K H a us) ∧ DpAll K H us xs := by
  cases h with
  | lst h r => cases e; exact ⟨_, _, rfl, .inl h, r⟩
  | tup h r => cases e; exact ⟨_, _, rfl, .inr h, r⟩
  | _ => cases e
theorem Le.sqs (e : Le H H1) {a : Addr} {us : List V} (h : SqL K H a us ∨ SqT K H a us) : SqL K H1 a us ∨ SqT K H1 a us := h.imp e.sql e.sqt
def PathAt (K : PySem.W.Frag) (H : Hp) (u : V) (path : List Nat) : Prop := ∃ a, u = .ref a ∧ SqT K H a (path.map fun i => V.int (i : Nat))
theorem Le.path (e : Le H H1) {u : V} {path : List Nat} (h : PathAt K H u path) : PathAt K H1 u path := let ⟨a, r, q⟩ := h; ⟨a, r, e.sqt q⟩
end
section
variable {P : Program} {w : World} {K : PySem.W.Frag} {mg : Str → Option Value} {base : Heap}
def spPaths (K : PySem.W.Frag) (n : Nat) : Sp := fun vs H Q _ => ∃ (v : V) (d : PyData), vs = [v] ∧ Dp K H v d ∧ sizeD d ≤ n ∧ n ≤ 1000 ∧
  ∀ (p : Addr) (us : List V) (H' : Hp), Le H H' → H p = none → H' p = some (.lst us) → 0 < us.length → us.length ≤ sizeD d → (∀ u ∈ us, ∃ path, VPath d path ∧ PathAt K H' u path) → Q (.ref p) H'
theorem ok_paths (G : Gx K mg) (k : Nat) : ∀ n : Nat, FnOk P w K mg base CX0 (n + k + 1) G.f__law_paths G.fd__law_paths ["value"] (spPaths K n)
  | 0 => by
    have no : ∀ vs H Q E, ¬ spPaths K 0 vs H Q E := fun vs H Q E h => by
      obtain ⟨v, d, _, _, h1, _⟩ := h
      have := sizeD_pos d
      omega
    exact ⟨fun vs H Q E h => absurd h (no vs H Q E), fun A outer s H args us vs Q E _ _ _ _ h => absurd h (no vs H Q E)⟩
  | n + 1 => by
    have G__law_paths := ok_paths G k n
    have lev : n + 1 + k + 1 = (n + k + 1) + 1 := by omega
    rw [lev]
    refine G.F__law_paths.ok sc__law_paths (fun vs H Q E h => ?_) (fun cdv A outer s H vs Q E hr h => ?_)
    · obtain ⟨v, d, rfl, _⟩ := h
      rfl
    obtain ⟨v, d, rfl, hd, hsz, hn, q⟩ := h
    refine ⟨_, (pss_cons (ps_set (i := 1) sc__law_paths.nd rfl (.inl rfl) (pe_lst (pa_cons (pe_tup pa_nil) pa_nil)))
    (pss_cons (ps_if (pt_val (pe_callB call_isiT (by rfl) G.isinstance (by decide +kernel) (pa_cons (pv 0) (pa_cons (pe_tup (pa_cons (pe_bltn (v := .ty "list") (u := .type "list") (by rfl) G.list (by decide +kernel) rfl) (pa_cons (pe_bltn (v := .ty "tuple") (u := .type "tuple") (by rfl) G.tuple (by decide +kernel) rfl) pa_nil))) pa_nil)))) (pss_one (ps_for PassesOwn.never rfl (pi_enumS (by rfl) G.enumerate (pa_cons (pv 0) pa_nil)) (pg_tup rfl (pgs_cons (pg_name (i := 2) sc__law_paths.nd rfl (.inr rfl)) (pgs_cons (pg_name (i := 3) sc__law_paths.nd rfl (.inl rfl)) pgs_nil)))
      (pss_one (ps_set (i := 1) sc__law_paths.nd rfl (.inl rfl) (pe_op op_cat (pv 1) (pe_lc (own := [("path", 4)]) (g := gName 4) (tt := tYes) (by rfl) sc__law_paths.nd (pi_list (pe_call G__law_paths hr (by rfl) G.m__law_paths G.F__law_paths.kp G.b__law_paths .nil pass0 (pa_cons (pv 3) pa_nil))) (blkOk_by (own := [("path", 4)]) (N := N__law_paths) (sc := defScope s__law_paths) (by decide +kernel)) (fun _ _ _ _ _ => (pg_name (i := 4) sc__law_paths.nd rfl (.inl rfl) (.inr rfl))) (fun _ _ _ _ _ => pts_nil) (fun _ _ _ _ _ => (pe_op (r := rCatT K) op_catT (pe_tup (pa_cons (pv 2) pa_nil)) (pv 4))))))))) pss_nil)
    (pss_one (ps_ret (pv 1))))), ?_⟩
    refine ⟨Nat.zero_le _, fun t0 ht0 => ⟨(by decide : 1 ≤ sizeLine), fun p0 hp0 => ?_⟩⟩
    have l0 := (Le.new (o := .tup []) ht0).trans (Le.new (o := .lst [.ref t0]) hp0)
    have kt0 : upd (upd H t0 (.tup [])) p0 (.lst [.ref t0]) t0 = some (.tup []) := (Le.new hp0).tup upd_same
    have kp0 : upd (upd H t0 (.tup [])) p0 (.lst [.ref t0]) p0 = some (.lst [.ref t0]) := upd_same
    have np0 : H p0 = none := (Le.new (o := .tup []) ht0).dom _ hp0
    generalize upd (upd H t0 (.tup [])) p0 (.lst [.ref t0]) = H0 at l0 kt0 kp0
    refine ⟨_, rfl, (by decide : 2 ≤ sizeLine), fun tc htc => ?_⟩
    have l1 := l0.trans (Le.new (o := .tup [.ty "list", .ty "tuple"]) htc)
    refine ⟨v, tc, [.ty "list", .ty "tuple"], _, [.type "list", .type "tuple"], _, rfl, upd_same, .cons (.ty _) (.cons (.ty _) .nil), dp_ty (l1.dp hd), kit_seq d, _, rfl, ?_⟩
    have kt1 := (Le.new (o := .tup [.ty "list", .ty "tuple"]) htc).tup kt0
    have kp1 := (Le.new (o := .tup [.ty "list", .ty "tuple"]) htc).lst kp0
    generalize upd H0 tc (.tup [.ty "list", .ty "tuple"]) = H1 at l1 kt1 kp1
    have dpos := sizeD_pos d
    have root : PathAt K H1 (.ref t0) [] := ⟨t0, rfl, sqt kt1⟩
    cases hi : itemsD d with
    | none =>
      have es : isSeqD d = false := by rw [seq_items, hi]; rfl
      rw [es]
      refine iteF ⟨_, rfl, q p0 _ H1 l1 np0 kp1 (Nat.succ_pos _) dpos fun u hu => ?_⟩
      rw [List.mem_singleton.mp hu]
      exact ⟨[], trivial, root⟩
    | some xs =>
      have es : isSeqD d = true := by rw [seq_items, hi]; rfl
      rw [es]
      obtain ⟨a, us, rfl, hS, hAll⟩ := dp_items hd hi
      have hlen := dpAll_length hAll
      rw [size_items hi] at hsz
      refine iteT ⟨_, rfl, a, us, rfl, l1.sqs hS, fun J Gd wk hG => ?_⟩
      refine for_it wk (fun i σ' H' => ∃ (p : Addr) (y2 y3 y4 : Option V) (ps : List V), σ' = [some (.ref a), some (.ref p), y2, y3, y4] ∧ Le H1 H' ∧ H p = none ∧ H' p = some (.lst ps) ∧ 0 < ps.length ∧ ps.length ≤ 1 + sizeL (xs.take i) ∧ (∀ u ∈ ps, ∃ path, VPath d path ∧ PathAt K H' u path)) ?_ ?_ ?_ ?_
      · refine ⟨p0, none, none, none, [.ref t0], rfl, Le.refl _, np0, kp1, Nat.succ_pos _, by simp, fun u hu => ?_⟩
        rw [List.mem_singleton.mp hu]
        exact ⟨[], trivial, root⟩
      · rintro i σ' H' _ ⟨p, y2, y3, y4, ps, _, l2, _⟩
        exact hG H' l2.sql l2.sqt
      · rintro i x σ' H' H2 hil ⟨p, y2, y3, y4, ps, rfl, l2, hp, kp, c0, c1, c2⟩ ⟨T, x1, y, rfl, hT, rfl, ex, hy⟩
        cases ex
        obtain ⟨e, hei, hde⟩ := dpAll_getV hAll hy
        have hem : e ∈ xs := List.mem_of_getElem? hei
        have hse := sizeL_mem hem
        have lT := Le.new (o := .tup [.int (i : Nat), y]) hT
        refine ⟨T, _, rfl, sqt upd_same, rfl, _, _, rfl, _, _, rfl, rfl, ?_⟩
        have kpT := lT.lst kp
        have cT : ∀ u ∈ ps, ∃ path, VPath d path ∧ PathAt K (upd H' T (.tup [.int (i : Nat), y])) u path := fun u hu => let ⟨pa, h1, h2⟩ := c2 u hu; ⟨pa, h1, lT.path h2⟩
        have lT1 := l2.trans lT
        generalize upd H' T (.tup [.int (i : Nat), y]) = H2 at kpT cT lT1
        -- the part's places
        refine ⟨_, rfl, _, rfl, y, e, rfl, (l1.trans lT1).dp hde, by omega, by omega, fun pq qs H3 l3 hpq kpq b0 b1 b2 => ?_⟩
        refine ⟨pq, rfl, ⟨_, sql kpq⟩, fun D hD => ?_⟩
        refine lc_list (xs := qs) (fun j H4 => ∃ ws : List V, Le H3 H4 ∧ H4 D = some (.lst ws) ∧ ws.length = j ∧ ∀ u ∈ ws, ∃ path, VPath d path ∧ PathAt K H4 u path) ⟨[], Le.new hD, upd_same, rfl, by simp⟩ (fun j H4 _ ⟨ws, l4, _⟩ => sql (l4.lst kpq)) ?_ ?_
        · rintro j z H4 hz ⟨ws, l4, kD, wl, wp⟩
          obtain ⟨pa, hva, az, rfl, haz⟩ := b2 z (List.mem_of_getElem? hz)
          have hjl := (List.getElem?_eq_some_iff.mp hz).1
          refine ⟨rfl, _, rfl, (by decide : 1 ≤ sizeLine), fun t1 ht1 => ?_⟩
          have l5 := l4.trans (Le.new (o := .tup [.int (i : Nat)]) ht1)
          have kD5 : upd H4 t1 (.tup [.int (i : Nat)]) D = some (.lst ws) := (Le.new ht1).lst kD
          have k15 : upd H4 t1 (.tup [.int (i : Nat)]) t1 = some (.tup [.int (i : Nat)]) := upd_same
          have w5 : ∀ u ∈ ws, ∃ path, VPath d path ∧ PathAt K (upd H4 t1 (.tup [.int (i : Nat)])) u path := fun u hu => let ⟨pa, h1, h2⟩ := wp u hu; ⟨pa, h1, (Le.new ht1).path h2⟩
          have vp : VPath d (i :: pa) := ⟨xs, e, hi, hei, hva⟩
          generalize upd H4 t1 (.tup [.int (i : Nat)]) = H5 at l5 kD5 k15 w5
          have plen := vpath_len hva
          have wlen : ws.length < 100000 := by omega
          have fin : ∀ (r : Addr) (H6 : Hp), Le H5 H6 → PathAt K H6 (.ref r) (i :: pa) → ∃ acc, H6 D = some (.lst acc) ∧ acc.length < sizeLine ∧ ∃ ws, Le H3 (upd H6 D (.lst (acc ++ [.ref r]))) ∧ upd H6 D (.lst (acc ++ [.ref r])) D = some (.lst ws) ∧ ws.length = j + 1 ∧ ∀ u ∈ ws, ∃ path, VPath d path ∧ PathAt K (upd H6 D (.lst (acc ++ [.ref r]))) u path := by
            intro r H6 l6 hr6
            have keepP : ∀ u path, PathAt K H6 u path → PathAt K (upd H6 D (.lst (ws ++ [.ref r]))) u path := fun u path ⟨b, e1, e2⟩ => by
              refine ⟨b, e1, ?_⟩
              rcases e2 with (e2 | ⟨o, e2⟩) | e2
              · exact sqt ((upd_ne (ne_of e2 (l6.lst kD5) (by intro z; cases z))).trans e2)
              · exact .inl (.inr ⟨o, (upd_ne (ne_of e2 (l6.lst kD5) (by intro z; cases z))).trans e2⟩)
              · exact .inr e2
            refine ⟨ws, l6.lst kD5, szlt wlen, ws ++ [.ref r], (l5.trans l6).mut hD, upd_same, by rw [List.length_append, wl]; rfl, fun u hu => ?_⟩
            rcases List.mem_append.mp hu with hu | hu
            · obtain ⟨pb, h1, h2⟩ := w5 u hu
              exact ⟨pb, h1, keepP _ _ (l6.path h2)⟩
            · rw [List.mem_singleton.mp hu]
              exact ⟨i :: pa, vp, keepP _ _ hr6⟩
          refine ⟨_, rfl, t1, az, _, _, rfl, rfl, sqt k15, l5.sqt haz, by simp, sz (by rw [List.length_map, List.length_singleton]; omega), fun en => ?_, fun en p2 hp2 => ?_⟩
          · have ep : pa = [] := List.map_eq_nil_iff.mp en
            exact fin t1 H5 (Le.refl _) ⟨t1, rfl, by rw [ep]; exact sqt k15⟩
          · exact fin p2 _ (Le.new hp2) ⟨p2, rfl, sqt upd_same⟩
        · rintro H4 ⟨ws, l4, kD, wl, wp⟩
          have kp4 := (l3.trans l4).lst kpT
          have c4 : ∀ u ∈ ps, ∃ path, VPath d path ∧ PathAt K H4 u path := fun u hu => let ⟨pa, h1, h2⟩ := cT u hu; ⟨pa, h1, (l3.trans l4).path h2⟩
          have et : xs.take (i + 1) = xs.take i ++ [e] := by rw [List.take_add_one, hei]; rfl
          have es : sizeL (xs.take (i + 1)) = sizeL (xs.take i) + sizeD e := by rw [et, sizeL_last]
          have bt : sizeL (xs.take (i + 1)) ≤ sizeL xs := by
            have := sizeL_append (xs.take (i + 1)) (xs.drop (i + 1))
            rw [List.take_append_drop] at this
            omega
          refine ⟨p, D, _, _, rfl, rfl, kp4, kD, sz (by omega), fun p5 hp5 => ?_⟩
          refine ⟨p5, _, _, _, ps ++ ws, rfl, (lT1.trans (l3.trans l4)).trans (Le.new hp5), (l1.trans (lT1.trans (l3.trans l4))).dom _ hp5, upd_same, by rw [List.length_append]; omega, by rw [List.length_append]; omega, fun u hu => ?_⟩
          rcases List.mem_append.mp hu with hu | hu
          · obtain ⟨pa, h1, h2⟩ := c4 u hu
            exact ⟨pa, h1, (Le.new hp5).path h2⟩
          · obtain ⟨pa, h1, h2⟩ := wp u hu
            exact ⟨pa, h1, (Le.new hp5).path h2⟩
      · rintro σ' H' ⟨p, y2, y3, y4, ps, rfl, l2, hp, kp, c0, c1, c2⟩
        rw [hlen, List.take_length] at c1
        exact ⟨_, rfl, q p ps H' (l1.trans l2) hp kp c0 (by rw [size_items hi]; omega) c2⟩
end
end Wr

set_option Elab.async false
set_option linter.all false
set_option maxRecDepth 100000
set_option maxHeartbeats 2000000
namespace Wr
open PySem PySem.Spec PyProof.Rows L2
/-! ### _law_other_value -/
section
variable {K : PySem.W.Frag} {H H1 : Hp} {d : PyData}
/-- a good value, not much larger than d -/
def Opt (K : PySem.W.Frag) (H : Hp) (d : PyData) (v : V) : Prop := ∃ e, Dp K H v e ∧ goodD e = true ∧ sizeD e ≤ sizeD d + 2
def OptL (K : PySem.W.Frag) (H : Hp) (d : PyData) (vs : List V) : Prop := ∀ v ∈ vs, Opt K H d v
theorem Le.opt (l : Le H H1) {v : V} (h : Opt K H d v) : Opt K H1 d v := let ⟨e, h1, h2⟩ := h; ⟨e, l.dp h1, h2⟩
theorem Le.optL (l : Le H H1) {vs : List V} (h : OptL K H d vs) : OptL K H1 d vs := fun v hv => l.opt (h v hv)
theorem optL_nil : OptL K H d [] := fun v hv => by cases hv
theorem optL_cons {v : V} {vs : List V} (h : Opt K H d v) (r : OptL K H d vs) : OptL K H d (v :: vs) := fun u hu => by
  rcases List.mem_cons.mp hu with z | z
  · rw [z]; exact h
  · exact r u z
theorem optL_app {vs us : List V} (h : OptL K H d vs) (r : OptL K H d us) : OptL K H d (vs ++ us) := fun u hu => by
  rcases List.mem_append.mp hu with z | z
  · exact h u z
  · exact r u z
theorem opt_non : Opt K H d .non := ⟨_, .non, by simp [goodD], by simp [sizeD]⟩
theorem opt_bl (b : Bool) : Opt K H d (.bl b) := ⟨_, .bl b, by simp [goodD], by simp [sizeD]⟩
theorem opt_int (i : Int) : Opt K H d (.int i) := ⟨_, .int i, by simp [goodD], by simp [sizeD]⟩
theorem opt_str (z : Str) (h : goodD (.str z) = true) : Opt K H d (.str z) := ⟨_, .str z, h, by simp [sizeD]⟩
theorem opt_lst {a : Addr} {us : List V} {es : List PyData} (h : SqL K H a us) (r : DpAll K H us es) (g : goodL es = true) (z : sizeL es ≤ sizeD d + 1) : Opt K H d (.ref a) := ⟨.list es, .lst h r, by rw [goodD]; exact g, by rw [sizeD]; omega⟩
theorem opt_tup {a : Addr} {us : List V} {es : List PyData} (h : SqT K H a us) (r : DpAll K H us es) (g : goodL es = true) (z : sizeL es ≤ sizeD d + 1) : Opt K H d (.ref a) := ⟨.tuple es, .tup h r, by rw [goodD]; exact g, by rw [sizeD]; omega⟩
theorem dpAll_rev {vs : List V} {ds : List PyData} (h : DpAll K H vs ds) : DpAll K H vs.reverse ds.reverse := by
  induction vs generalizing ds with
  | nil => cases h; exact .nil
  | cons v r ih =>
    cases h with
    | cons h1 h2 =>
      rw [List.reverse_cons, List.reverse_cons]
      exact dpAll_append (ih h2) (.cons h1 .nil)
theorem sizeL_rev (ds : List PyData) : sizeL ds.reverse = sizeL ds := by
  induction ds with
  | nil => rfl
  | cons e r ih => rw [List.reverse_cons, sizeL_last, ih, sizeL]; omega
theorem goodL_rev {ds : List PyData} (h : goodL ds = true) : goodL ds.reverse = true := by
  rw [goodL_all] at h ⊢
  exact fun d hd => h d (List.mem_reverse.mp hd)
end
section
variable {P : Program} {w : World} {K : PySem.W.Frag} {mg : Str → Option Value} {base : Heap}
def spOther (K : PySem.W.Frag) : Sp := fun vs H Q _ => ∃ (v : V) (d : PyData) (g : Addr) (ds : List Int), vs = [v, .ref g] ∧ Dp K H v d ∧ goodD d = true ∧ SqL K H g (ds.map V.int) ∧ Nn ds ∧ 2 ≤ ds.length ∧
  ∀ (u : V) (e : PyData) (H' : Hp), Le H H' → Dp K H' u e → goodD e = true → sizeD e ≤ sizeD d + 2 → Q u H'
theorem ok_other (G : Gx K mg) (k : Nat) : FnOk P w K mg base CX0 (k + 1) G.f__law_other_value G.fd__law_other_value ["value", "digits"] (spOther K) := by
  refine G.F__law_other_value.ok sc__law_other_value (fun vs H Q E h => ?_) (fun cdv A outer s H vs Q E hr h => ?_)
  · obtain ⟨v, d, g, ds, rfl, _⟩ := h
    rfl
  obtain ⟨v, d, g, ds, rfl, hd, hz, hG, hnn, hdl, q⟩ := h
  refine ⟨_, (pss_cons (ps_set (i := 2) sc__law_other_value.nd rfl (.inl rfl) (pe_lst (pa_cons pe_non (pa_cons pe_bl (pa_cons pe_bl (pa_cons pe_int (pa_cons (pe_op op_sub pe_int pe_int) (pa_cons (pe_op op_pow pe_int pe_int) (pa_cons pe_str (pa_cons pe_str (pa_cons (pe_tup pa_nil) (pa_cons (pe_lst pa_nil) (pa_cons (pe_tup (pa_cons (pv 0) pa_nil)) (pa_cons (pe_lst (pa_cons (pv 0) pa_nil)) (pa_cons (pe_tup (pa_cons pe_int pa_nil)) (pa_cons (pe_tup (pa_cons pe_int (pa_cons pe_int pa_nil))) (pa_cons pe_int (pa_cons pe_int pa_nil))))))))))))))))))
    (Evl.pss_cut (ps_if (PW.pt (pw_and (pt_val (pe_callB call_isi (by rfl) G.isinstance (by decide +kernel) (pa_cons (pv 0) (pa_cons (pe_bltn (v := .ty "int") (u := .type "int") (by rfl) G.int (by decide +kernel) rfl) pa_nil)))) (pw_and1 (pt_not (pt_val (pe_callB call_isi (by rfl) G.isinstance (by decide +kernel) (pa_cons (pv 0) (pa_cons (pe_bltn (v := .ty "bool") (u := .type "bool") (by rfl) G.bool (by decide +kernel) rfl) pa_nil)))))))) (pss_one (ps_set (i := 2) sc__law_other_value.nd rfl (.inl rfl) (pe_op op_cat (pe_lst (pa_cons (pe_op op_add (pv 0) pe_int) (pa_cons (pe_op op_sub (pv 0) pe_int) (pa_cons (pe_callTy call_bool1 (by rfl) G.bool (by decide +kernel) (pa_cons (pv 0) pa_nil)) (pa_cons (pe_op op_add (pv 0) pe_int) (pa_cons (pe_op op_sub (pv 0) pe_int) (pa_cons (pe_callTy call_bool1 (by rfl) G.bool (by decide +kernel) (pa_cons (pv 0) pa_nil)) pa_nil))))))) (pv 2)))) pss_nil)
    (Evl.pss_cut (ps_if (pt_val (pe_callB call_isiT (by rfl) G.isinstance (by decide +kernel) (pa_cons (pv 0) (pa_cons (pe_tup (pa_cons (pe_bltn (v := .ty "list") (u := .type "list") (by rfl) G.list (by decide +kernel) rfl) (pa_cons (pe_bltn (v := .ty "tuple") (u := .type "tuple") (by rfl) G.tuple (by decide +kernel) rfl) pa_nil))) pa_nil)))) (pss_one (ps_set (i := 2) sc__law_other_value.nd rfl (.inl rfl) (pe_op op_cat (pe_lst (pa_cons (pe_callTy call_list_of (by rfl) G.list (by decide +kernel) (pa_cons (pv 0) pa_nil)) (pa_cons (pe_callTy call_tupA (by rfl) G.tuple (by decide +kernel) (pa_cons (pv 0) pa_nil)) (pa_cons (pe_callTy call_tupA (by rfl) G.tuple (by decide +kernel) (pa_cons (pe_revS (pv 0)) pa_nil)) (pa_cons (pe_callTy call_list_of (by rfl) G.list (by decide +kernel) (pa_cons (pv 0) pa_nil)) pa_nil))))) (pv 2)))) pss_nil)
    (pss_one (ps_ret (pe_ix ix_list (pv 2) (pe_op op_mod (pe_ix ix_list (pv 1) pe_int (fun _ _ => rfl)) (pe_callB call_len_seq (by rfl) G.len PySem.boot_len (pa_cons (pv 2) pa_nil))) (fun _ _ => rfl))))))), ?_⟩
  have dpos := sizeD_pos d
  have one : goodL [d] = true := by rw [goodL, goodL, hz]; rfl
  have one' : sizeL [d] = sizeD d := by rw [sizeL, sizeL]; omega
  refine ⟨_, _, rfl, rfl, _, _, rfl, rfl, ⟨by decide, by decide, by decide⟩, Nat.zero_le _, fun t1 ht1 => ⟨Nat.zero_le _, fun l1 hl1 => ⟨_, rfl, (by decide : 1 ≤ sizeLine), fun t2 ht2 => ⟨_, rfl, (by decide : 1 ≤ sizeLine), fun l2 hl2 => ⟨(by decide : 1 ≤ sizeLine), fun t3 ht3 => ⟨(by decide : 2 ≤ sizeLine), fun t4 ht4 => ⟨(by decide : 16 ≤ sizeLine), fun p hp => ?_⟩⟩⟩⟩⟩⟩⟩
  have a1 := Le.new (o := .tup []) ht1
  have b1 : Opt K (upd H t1 (.tup [])) d (.ref t1) := opt_tup (sqt upd_same) .nil rfl (by rw [sizeL]; omega)
  generalize upd H t1 (.tup []) = H1 at *
  have a2 := Le.new (o := .lst []) hl1
  have b2 : Opt K (upd H1 l1 (.lst [])) d (.ref l1) := opt_lst (sql upd_same) .nil rfl (by rw [sizeL]; omega)
  generalize upd H1 l1 (.lst []) = H2 at *
  have a3 := Le.new (o := .tup [v]) ht2
  have b3 : Opt K (upd H2 t2 (.tup [v])) d (.ref t2) := opt_tup (sqt upd_same) (.cons ((a1.trans (a2.trans a3)).dp hd) .nil) one (by omega)
  generalize upd H2 t2 (.tup [v]) = H3 at *
  have a4 := Le.new (o := .lst [v]) hl2
  have b4 : Opt K (upd H3 l2 (.lst [v])) d (.ref l2) := opt_lst (sql upd_same) (.cons ((a1.trans (a2.trans (a3.trans a4))).dp hd) .nil) one (by omega)
  generalize upd H3 l2 (.lst [v]) = H4 at *
  have a5 := Le.new (o := .tup [.int 0]) ht3
  have b5 : Opt K (upd H4 t3 (.tup [.int 0])) d (.ref t3) := opt_tup (sqt upd_same) (.cons (.int 0) .nil) (by simp [goodL, goodD]) (by simp only [sizeL, sizeD]; omega)
  generalize upd H4 t3 (.tup [.int 0]) = H5 at *
  have a6 := Le.new (o := .tup [.int 1, .int 0]) ht4
  have b6 : Opt K (upd H5 t4 (.tup [.int 1, .int 0])) d (.ref t4) := opt_tup (sqt upd_same) (.cons (.int 1) (.cons (.int 0) .nil)) (by simp [goodL, goodD]) (by simp only [sizeL, sizeD]; omega)
  generalize upd H5 t4 (.tup [.int 1, .int 0]) = H6 at *
  have l6 := a1.trans (a2.trans (a3.trans (a4.trans (a5.trans a6))))
  have all : OptL K H6 d [.non, .bl true, .bl false, .int 7, .int (0 - 1), .int (10 ^ (39 : Int).toNat), .str "0", .str "", .ref t1, .ref l1, .ref t2, .ref l2, .ref t3, .ref t4, .int 1, .int 0] :=
    optL_cons opt_non (optL_cons (opt_bl _) (optL_cons (opt_bl _) (optL_cons (opt_int _) (optL_cons (opt_int _) (optL_cons (opt_int _) (optL_cons (opt_str _ (by decide +kernel)) (optL_cons (opt_str _ (by decide +kernel))
    (optL_cons ((a2.trans (a3.trans (a4.trans (a5.trans a6)))).opt b1) (optL_cons ((a3.trans (a4.trans (a5.trans a6))).opt b2) (optL_cons ((a4.trans (a5.trans a6)).opt b3) (optL_cons ((a5.trans a6).opt b4) (optL_cons (a6.opt b5) (optL_cons b6 (optL_cons (opt_int _) (optL_cons (opt_int _) optL_nil)))))))))))))))
  have l7 := l6.trans (Le.new (o := .lst [.non, .bl true, .bl false, .int 7, .int (0 - 1), .int (10 ^ (39 : Int).toNat), .str "0", .str "", .ref t1, .ref l1, .ref t2, .ref l2, .ref t3, .ref t4, .int 1, .int 0]) hp)
  have all7 := (Le.new (o := .lst [.non, .bl true, .bl false, .int 7, .int (0 - 1), .int (10 ^ (39 : Int).toNat), .str "0", .str "", .ref t1, .ref l1, .ref t2, .ref l2, .ref t3, .ref t4, .int 1, .int 0]) hp).optL all
  have kp : upd H6 p (.lst [.non, .bl true, .bl false, .int 7, .int (0 - 1), .int (10 ^ (39 : Int).toNat), .str "0", .str "", .ref t1, .ref l1, .ref t2, .ref l2, .ref t3, .ref t4, .int 1, .int 0]) p = some (.lst [.non, .bl true, .bl false, .int 7, .int (0 - 1), .int (10 ^ (39 : Int).toNat), .str "0", .str "", .ref t1, .ref l1, .ref t2, .ref l2, .ref t3, .ref t4, .int 1, .int 0]) := upd_same
  have W : ∀ i : Nat, True := fun _ => trivial
  refine ⟨fun σ' H' => ∃ (p : Addr) (us : List V), σ' = [some v, some (.ref g), some (.ref p)] ∧ Le H H' ∧ H' p = some (.lst us) ∧ OptL K H' d us ∧ 0 < us.length ∧ us.length ≤ 30, ?_, ?_⟩
  · have stay : ∃ (p : Addr) (us : List V), [some v, some (.ref g), some (.ref p)] = [some v, some (.ref g), some (.ref p)] ∧ True := ⟨p, [], rfl, trivial⟩
    refine ⟨_, rfl, v, _, _, _, _, rfl, .ty "int", dp_ty (l7.dp hd), kit_ty (kit_int d), _, rfl, ?_⟩
    cases hI : isIntD d with
    | false => exact iteF (iteF ⟨p, _, rfl, l7, kp, all7, by simp, by simp⟩)
    | true =>
      refine iteT ⟨_, rfl, v, _, _, _, _, rfl, .ty "bool", dp_ty (l7.dp hd), kit_ty (kit_bool d), _, rfl, ?_⟩
      cases hB : isBoolD d with
      | true => exact iteF ⟨p, _, rfl, l7, kp, all7, by simp, by simp⟩
      | false =>
        obtain ⟨i, rfl⟩ : ∃ i, d = .int i := by
          cases d with
          | int i => exact ⟨i, rfl⟩
          | bool b => cases hB
          | _ => cases hI
        cases hd
        refine iteT ⟨_, rfl, _, _, rfl, rfl, _, rfl, _, _, rfl, rfl, _, rfl, .inl ⟨_, rfl, _, rfl, _, _, rfl, rfl, _, rfl, _, _, rfl, rfl, _, rfl, .inl ⟨_, rfl, (by decide : 6 ≤ sizeLine), fun l8 hl8 => ?_⟩⟩⟩
        have a8 := Le.new (o := .lst [.int (i + 1), .int (i - 1), .bl (i != 0), .int (i + 1), .int (i - 1), .bl (i != 0)]) hl8
        refine ⟨_, rfl, l8, p, _, _, rfl, rfl, upd_same, a8.lst kp, sz (by simp), fun p9 hp9 => ?_⟩
        refine ⟨p9, _, rfl, (l7.trans a8).trans (Le.new hp9), upd_same, (Le.new hp9).optL (optL_app (optL_cons (opt_int _) (optL_cons (opt_int _) (optL_cons (opt_bl _) (optL_cons (opt_int _) (optL_cons (opt_int _) (optL_cons (opt_bl _) optL_nil)))))) (a8.optL all7)), by simp, by simp⟩
  rintro σ' H' ⟨p, us, rfl, l8, kp8, all8, c0, c1⟩
  refine ⟨fun σ' H' => ∃ (p : Addr) (us : List V), σ' = [some v, some (.ref g), some (.ref p)] ∧ Le H H' ∧ H' p = some (.lst us) ∧ OptL K H' d us ∧ 0 < us.length ∧ us.length ≤ 40, ?_, ?_⟩
  · refine ⟨_, rfl, (by decide : 2 ≤ sizeLine), fun tc htc => ?_⟩
    have ac := Le.new (o := .tup [.ty "list", .ty "tuple"]) htc
    have l9 := l8.trans ac
    refine ⟨v, tc, [.ty "list", .ty "tuple"], _, [.type "list", .type "tuple"], _, rfl, upd_same, .cons (.ty _) (.cons (.ty _) .nil), dp_ty (l9.dp hd), kit_seq d, _, rfl, ?_⟩
    have kp9 := ac.lst kp8
    have all9 := ac.optL all8
    generalize upd H' tc (.tup [.ty "list", .ty "tuple"]) = H9 at *
    cases hi : itemsD d with
    | none =>
      rw [seq_items, hi]
      exact iteF ⟨p, us, rfl, l9, kp9, all9, c0, by omega⟩
    | some es =>
      rw [seq_items, hi]
      obtain ⟨a, xs, rfl, hS, hAll⟩ := dp_items hd hi
      have ge : goodL es = true := by rw [← good_items hi]; exact hz
      have se : sizeL es ≤ sizeD d + 1 := by rw [size_items hi]; omega
      refine iteT ⟨_, rfl, a, xs, rfl, l9.sqs hS, fun q1 hq1 => ?_⟩
      have d1 := Le.new (o := .lst xs) hq1
      have o1 : Opt K (upd H9 q1 (.lst xs)) d (.ref q1) := opt_lst (sql upd_same) ((l9.trans d1).dpAll hAll) ge se
      generalize upd H9 q1 (.lst xs) = Ha at *
      refine ⟨_, rfl, a, xs, rfl, (l9.trans d1).sqs hS, fun q2 Hb d2 k2 => ?_⟩
      have lb := l9.trans (d1.trans d2)
      have o2 : Opt K Hb d (.ref q2) := opt_tup k2 (lb.dpAll hAll) ge se
      refine ⟨_, rfl, a, xs, rfl, lb.sqs hS, fun qr Hr dr _ _ _ kr => ?_⟩
      have lr := lb.trans dr
      refine ⟨qr, xs.reverse, rfl, kr, fun q3 Hd d3 k3 => ?_⟩
      have ld := lr.trans d3
      have o3 : Opt K Hd d (.ref q3) := opt_tup k3 (dpAll_rev (ld.dpAll hAll)) (goodL_rev ge) (by rw [sizeL_rev]; exact se)
      refine ⟨_, rfl, a, xs, rfl, ld.sqs hS, fun q4 hq4 => ?_⟩
      have d4 := Le.new (o := .lst xs) hq4
      have o4 : Opt K (upd Hd q4 (.lst xs)) d (.ref q4) := opt_lst (sql upd_same) ((ld.trans d4).dpAll hAll) ge se
      refine ⟨(by decide : 4 ≤ sizeLine), fun q5 hq5 => ?_⟩
      have d5 := Le.new (o := .lst [.ref q1, .ref q2, .ref q3, .ref q4]) hq5
      have l5 := d1.trans (d2.trans (dr.trans (d3.trans (d4.trans d5))))
      refine ⟨_, rfl, q5, p, _, _, rfl, rfl, upd_same, l5.lst kp9, sz (by simp; omega), fun q6 hq6 => ?_⟩
      refine ⟨q6, _, rfl, (l9.trans l5).trans (Le.new hq6), upd_same, (Le.new hq6).optL (optL_app (optL_cons ((d2.trans (dr.trans (d3.trans (d4.trans d5)))).opt o1) (optL_cons ((dr.trans (d3.trans (d4.trans d5))).opt o2) (optL_cons ((d4.trans d5).opt o3) (optL_cons (d5.opt o4) optL_nil)))) (l5.optL all9)), by simp, by simp; omega⟩
  rintro σ' H' ⟨p, us, rfl, l8, kp8, all8, c0, c1⟩
  obtain ⟨d1, d1n, _, d1e⟩ := nn_at (i := 1) hnn (by decide) (by omega)
  have upos : (0 : Int) < ((us.length : Nat) : Int) := by omega
  obtain ⟨u, hum, _, hue⟩ := atI_in (xs := us) (i := d1 % ((us.length : Nat) : Int)) (Int.emod_nonneg _ (by omega)) (Int.emod_lt_of_pos _ upos)
  obtain ⟨e, he1, he2, he3⟩ := all8 u hum
  exact ⟨_, rfl, _, rfl, g, _, _, _, rfl, rfl, l8.sql hG, d1e, _, rfl, p, _, rfl, .inl (sql kp8), _, _, rfl, rfl, upos, p, _, _, _, rfl, rfl, sql kp8, hue, q u e H' l8 he1 he2 he3⟩
end
end Wr

set_option Elab.async false
set_option linter.all false
set_option maxRecDepth 100000
set_option maxHeartbeats 2000000
namespace Wr
open PySem PySem.Spec PyProof.Rows L2
/-! ### lists of data, cut -/
theorem sizeL_take (n : Nat) (es : List PyData) : sizeL (es.take n) + sizeL (es.drop n) = sizeL es := by rw [← sizeL_append, List.take_append_drop]
theorem goodL_take {n : Nat} {es : List PyData} (h : goodL es = true) : goodL (es.take n) = true := by
  rw [goodL_all] at h ⊢
  exact fun d hd => h d (List.mem_of_mem_take hd)
theorem goodL_drop {n : Nat} {es : List PyData} (h : goodL es = true) : goodL (es.drop n) = true := by
  rw [goodL_all] at h ⊢
  exact fun d hd => h d (List.mem_of_mem_drop hd)
theorem goodL_append {xs ys : List PyData} (h : goodL xs = true) (h2 : goodL ys = true) : goodL (xs ++ ys) = true := by
  rw [goodL_all] at *
  intro d hd
  rcases List.mem_append.mp hd with z | z
  · exact h d z
  · exact h2 d z
theorem goodL_one {e : PyData} (h : goodD e = true) : goodL [e] = true := by rw [goodL, goodL, h]; rfl
section
variable {P : Program} {w : World} {K : PySem.W.Frag} {mg : Str → Option Value} {base : Heap}
def spMoved (K : PySem.W.Frag) : Sp := fun vs H Q _ => ∃ (a g : Addr) (i : Int) (us : List V) (es : List PyData) (ds : List Int), vs = [.ref a, .int i, .ref g] ∧ H a = some (.lst us) ∧ DpAll K H us es ∧ goodL es = true ∧ sizeL es ≤ 1000 ∧ 0 ≤ i ∧ i < us.length ∧
  SqL K H g (ds.map V.int) ∧ Nn ds ∧ 3 ≤ ds.length ∧
  ∀ (p : Addr) (us' : List V) (es' : List PyData) (H' : Hp), Le H H' → H p = none → H' p = some (.lst us') → DpAll K H' us' es' → goodL es' = true → sizeL es' ≤ 2 * sizeL es → Q (.ref p) H'
theorem ok_moved (G : Gx K mg) (k : Nat) : FnOk P w K mg base CX0 (k + 1) G.f__law_moved_item G.fd__law_moved_item ["items", "index", "digits"] (spMoved K) := by
  refine G.F__law_moved_item.ok sc__law_moved_item (fun vs H Q E h => ?_) (fun cdv A outer s H vs Q E hr h => ?_)
  · obtain ⟨a, g, i, us, es, ds, rfl, _⟩ := h
    rfl
  obtain ⟨a, g, i, us, es, ds, rfl, ha, hAll, hg, hsz, i0, i1, hG, hnn, hdl, q⟩ := h
  refine ⟨_, (pss_cons (ps_set (i := 3) sc__law_moved_item.nd rfl (.inl rfl) (pe_op op_mod (pe_ix ix_list (pv 2) pe_int (fun _ _ => rfl)) (pe_callB call_len_seq (by rfl) G.len PySem.boot_len (pa_cons (pv 0) pa_nil))))
    (pss_cons (ps_if (pt_cmpR op_eq (pe_op op_mod (pe_ix ix_list (pv 2) pe_int (fun _ _ => rfl)) pe_int) pe_int (nomark _)) (pss_one (ps_ret (pe_op op_cat (pe_slice sl_list (pv 0) po_none (po_some (pv 1))) (pe_slice sl_list (pv 0) (po_some (pe_op op_add (pv 1) pe_int)) po_none)))) pss_nil)
    (pss_cons (ps_if (pt_cmpR op_eq (pe_op op_mod (pe_ix ix_list (pv 2) pe_int (fun _ _ => rfl)) pe_int) pe_int (nomark _)) (pss_one (ps_ret (pe_op op_cat (pe_op op_cat (pe_slice sl_list (pv 0) po_none (po_some (pv 3))) (pe_lst (pa_cons (pe_ix ix_list (pv 0) (pv 1) (fun _ _ => rfl)) pa_nil))) (pe_slice sl_list (pv 0) (po_some (pv 3)) po_none)))) pss_nil)
    (pss_cons (ps_set (i := 4) sc__law_moved_item.nd rfl (.inl rfl) (pe_op op_cat (pe_slice sl_list (pv 0) po_none (po_some (pv 1))) (pe_slice sl_list (pv 0) (po_some (pe_op op_add (pv 1) pe_int)) po_none)))
    (pss_one (ps_ret (pe_op op_cat (pe_op op_cat (pe_slice sl_list (pv 4) po_none (po_some (pv 3))) (pe_lst (pa_cons (pe_ix ix_list (pv 0) (pv 1) (fun _ _ => rfl)) pa_nil))) (pe_slice sl_list (pv 4) (po_some (pv 3)) po_none)))))))), ?_⟩
  have hlen := dpAll_length hAll
  have hbl := sizeL_len es
  obtain ⟨d2, d2n, _, d2e⟩ := nn_at (i := 2) hnn (by decide) (by omega)
  obtain ⟨d0, d0n, _, d0e⟩ := nn_at (i := 0) hnn (by decide) (by omega)
  have upos : (0 : Int) < ((us.length : Nat) : Int) := by omega
  refine ⟨_, rfl, g, _, _, _, rfl, rfl, hG, d2e, _, rfl, a, _, rfl, .inl (sql ha), _, _, rfl, rfl, upos, ?_⟩
  dsimp only
  have t0 : 0 ≤ d2 % ((us.length : Nat) : Int) := Int.emod_nonneg _ (by omega)
  have t1 : d2 % ((us.length : Nat) : Int) < ((us.length : Nat) : Int) := Int.emod_lt_of_pos _ upos
  generalize d2 % ((us.length : Nat) : Int) = t at t0 t1
  -- items[:index] + items[index + 1:]
  have cutA : cutV us none (some i) = us.take i.toNat := cut_to i0
  have cutB : cutV us (some (i + 1)) none = us.drop (i + 1).toNat := cut_from (by omega)
  have sA := sizeL_take i.toNat es
  have sB := sizeL_take (i + 1).toNat es
  obtain ⟨x, hxm, hxi, hxe⟩ := atI_in i0 i1
  obtain ⟨e, hei, hde⟩ := dpAll_getV hAll hxi
  have hge : goodD e = true := goodL_mem hg (List.mem_of_getElem? hei)
  have hse := sizeL_mem (List.mem_of_getElem? hei)
  have dropS : sizeL (es.take i.toNat ++ es.drop (i + 1).toNat) ≤ sizeL es := by
    rw [sizeL_append]
    have : sizeL (es.drop (i + 1).toNat) ≤ sizeL (es.drop i.toNat) := by
      have z := sizeL_take 1 (es.drop i.toNat)
      rw [List.drop_drop] at z
      rw [show (i + 1).toNat = i.toNat + 1 by omega]
      omega
    omega
  refine ⟨_, rfl, g, _, _, _, rfl, rfl, hG, d0e, _, _, rfl, rfl, (by decide : (0 : Int) < 3), rfl, _, rfl, ite2 (fun _ => ?_) (fun _ => ?_)⟩
  · refine ⟨_, rfl, _, rfl, _, rfl, a, us, rfl, sql ha, fun p1 hp1 => ?_⟩
    have b1 := Le.new (o := .lst (cutV us none (some i))) hp1
    refine ⟨_, rfl, _, rfl, _, _, rfl, rfl, _, rfl, a, us, rfl, sql (b1.lst ha), fun p2 hp2 => ?_⟩
    have b2 := Le.new (o := .lst (cutV us (some (i + 1)) none)) hp2
    refine ⟨p1, p2, _, _, rfl, rfl, b2.lst upd_same, upd_same, ?_, fun p3 hp3 => ?_⟩
    · have z1 := cutV_length us none (some i)
      have z2 := cutV_length us (some (i + 1)) none
      exact sz (by omega)
    have b3 := (b1.trans b2).trans (Le.new (o := .lst (cutV us none (some i) ++ cutV us (some (i + 1)) none)) hp3)
    refine q p3 _ (es.take i.toNat ++ es.drop (i + 1).toNat) _ b3 ((b1.trans b2).dom _ hp3) upd_same ?_ (goodL_append (goodL_take hg) (goodL_drop hg)) (by omega)
    rw [cutA, cutB] at b3 ⊢
    exact dpAll_append (dpAll_take _ (b3.dpAll hAll)) (dpAll_drop _ (b3.dpAll hAll))
  refine ⟨_, rfl, g, _, _, _, rfl, rfl, hG, d0e, _, _, rfl, rfl, (by decide : (0 : Int) < 3), rfl, _, rfl, ite2 (fun _ => ?_) (fun _ => ?_)⟩
  · have cutC : cutV us none (some t) = us.take t.toNat := cut_to t0
    have cutD : cutV us (some t) none = us.drop t.toNat := cut_from t0
    have sC := sizeL_take t.toNat es
    refine ⟨_, rfl, _, rfl, _, rfl, a, us, rfl, sql ha, fun p1 hp1 => ?_⟩
    have b1 := Le.new (o := .lst (cutV us none (some t))) hp1
    refine ⟨_, rfl, _, rfl, a, _, _, _, rfl, rfl, sql (b1.lst ha), hxe, (by decide : 1 ≤ sizeLine), fun p2 hp2 => ?_⟩
    have b2 := Le.new (o := .lst [x]) hp2
    refine ⟨p1, p2, _, _, rfl, rfl, b2.lst upd_same, upd_same, ?_, fun p3 hp3 => ?_⟩
    · have z1 := cutV_length us none (some t)
      exact sz (by rw [List.length_singleton]; omega)
    have b3 := Le.new (o := .lst (cutV us none (some t) ++ [x])) hp3
    refine ⟨_, rfl, _, rfl, _, rfl, a, us, rfl, sql ((b1.trans (b2.trans b3)).lst ha), fun p4 hp4 => ?_⟩
    have b4 := Le.new (o := .lst (cutV us (some t) none)) hp4
    refine ⟨p3, p4, _, _, rfl, rfl, b4.lst upd_same, upd_same, ?_, fun p5 hp5 => ?_⟩
    · have z1 := cutV_length us none (some t)
      have z2 := cutV_length us (some t) none
      exact sz (by rw [List.length_append, List.length_singleton]; omega)
    have b5 := (b1.trans (b2.trans (b3.trans b4))).trans (Le.new (o := .lst (cutV us none (some t) ++ [x] ++ cutV us (some t) none)) hp5)
    refine q p5 _ (es.take t.toNat ++ [e] ++ es.drop t.toNat) _ b5 ((b1.trans (b2.trans (b3.trans b4))).dom _ hp5) upd_same ?_ (goodL_append (goodL_append (goodL_take hg) (goodL_one hge)) (goodL_drop hg)) ?_
    · rw [cutC, cutD] at b5 ⊢
      exact dpAll_append (dpAll_append (dpAll_take _ (b5.dpAll hAll)) (.cons (b5.dp hde) .nil)) (dpAll_drop _ (b5.dpAll hAll))
    · rw [sizeL_append, sizeL_last]
      omega
  · refine ⟨_, rfl, _, rfl, _, rfl, a, us, rfl, sql ha, fun p1 hp1 => ?_⟩
    have b1 := Le.new (o := .lst (cutV us none (some i))) hp1
    refine ⟨_, rfl, _, rfl, _, _, rfl, rfl, _, rfl, a, us, rfl, sql (b1.lst ha), fun p2 hp2 => ?_⟩
    have b2 := Le.new (o := .lst (cutV us (some (i + 1)) none)) hp2
    refine ⟨p1, p2, _, _, rfl, rfl, b2.lst upd_same, upd_same, ?_, fun p3 hp3 => ?_⟩
    · have z1 := cutV_length us none (some i)
      have z2 := cutV_length us (some (i + 1)) none
      exact sz (by omega)
    have b3 := (b1.trans b2).trans (Le.new (o := .lst (cutV us none (some i) ++ cutV us (some (i + 1)) none)) hp3)
    have k3 : upd (upd (upd H p1 (.lst (cutV us none (some i)))) p2 (.lst (cutV us (some (i + 1)) none))) p3 (.lst (cutV us none (some i) ++ cutV us (some (i + 1)) none)) p3 = some (.lst (cutV us none (some i) ++ cutV us (some (i + 1)) none)) := upd_same
    rw [cutA, cutB] at k3 b3 ⊢
    generalize upd (upd (upd H p1 (.lst (us.take i.toNat))) p2 (.lst (us.drop (i + 1).toNat))) p3 (.lst (us.take i.toNat ++ us.drop (i + 1).toNat)) = H3 at k3 b3
    have rAll : DpAll K H (us.take i.toNat ++ us.drop (i + 1).toNat) (es.take i.toNat ++ es.drop (i + 1).toNat) := dpAll_append (dpAll_take _ hAll) (dpAll_drop _ hAll)
    have rg : goodL (es.take i.toNat ++ es.drop (i + 1).toNat) = true := goodL_append (goodL_take hg) (goodL_drop hg)
    have rl : (us.take i.toNat ++ us.drop (i + 1).toNat).length ≤ 1000 := by
      rw [List.length_append, List.length_take, List.length_drop]
      omega
    generalize us.take i.toNat ++ us.drop (i + 1).toNat = ru at *
    generalize es.take i.toNat ++ es.drop (i + 1).toNat = re at *
    have cutC : cutV ru none (some t) = ru.take t.toNat := cut_to t0
    have cutD : cutV ru (some t) none = ru.drop t.toNat := cut_from t0
    have sC := sizeL_take t.toNat re
    refine ⟨_, rfl, _, rfl, _, rfl, p3, ru, rfl, sql k3, fun q1 hq1 => ?_⟩
    have c1 := Le.new (o := .lst (cutV ru none (some t))) hq1
    refine ⟨_, rfl, _, rfl, a, _, _, _, rfl, rfl, sql ((b3.trans c1).lst ha), hxe, (by decide : 1 ≤ sizeLine), fun q2 hq2 => ?_⟩
    have c2 := Le.new (o := .lst [x]) hq2
    refine ⟨q1, q2, _, _, rfl, rfl, c2.lst upd_same, upd_same, ?_, fun q3 hq3 => ?_⟩
    · have z1 := cutV_length ru none (some t)
      exact sz (by rw [List.length_singleton]; omega)
    have c3 := Le.new (o := .lst (cutV ru none (some t) ++ [x])) hq3
    refine ⟨_, rfl, _, rfl, _, rfl, p3, ru, rfl, sql ((c1.trans (c2.trans c3)).lst k3), fun q4 hq4 => ?_⟩
    have c4 := Le.new (o := .lst (cutV ru (some t) none)) hq4
    refine ⟨q3, q4, _, _, rfl, rfl, c4.lst upd_same, upd_same, ?_, fun q5 hq5 => ?_⟩
    · have z1 := cutV_length ru none (some t)
      have z2 := cutV_length ru (some t) none
      exact sz (by rw [List.length_append, List.length_singleton]; omega)
    have c5 := b3.trans ((c1.trans (c2.trans (c3.trans c4))).trans (Le.new (o := .lst (cutV ru none (some t) ++ [x] ++ cutV ru (some t) none)) hq5))
    refine q q5 _ (re.take t.toNat ++ [e] ++ re.drop t.toNat) _ c5 ((b3.trans (c1.trans (c2.trans (c3.trans c4)))).dom _ hq5) upd_same ?_ (goodL_append (goodL_append (goodL_take rg) (goodL_one hge)) (goodL_drop rg)) ?_
    · rw [cutC, cutD] at c5 ⊢
      exact dpAll_append (dpAll_append (dpAll_take _ (c5.dpAll rAll)) (.cons (c5.dp hde) .nil)) (dpAll_drop _ (c5.dpAll rAll))
    · rw [sizeL_append, sizeL_last]
      omega
end
end Wr

set_option Elab.async false
set_option linter.all false
set_option maxRecDepth 100000
set_option maxHeartbeats 2000000
namespace Wr
open PySem PySem.Spec PyProof.Rows L2
/-! ### _law_change_at, _law_mutated -/
theorem eqv_path (path : List Nat) : PyData.eqv (.tuple (path.map fun i => PyData.int (i : Nat))) (.tuple []) = path.isEmpty := by
  cases path with
  | nil => rw [PyData.eqv, List.map_nil, PyData.eqvAll]; rfl
  | cons c r => rw [PyData.eqv, List.map_cons, PyData.eqvAll]; rfl
theorem shaped_path (path : List Nat) : SeqAt.shaped (.tuple (path.map fun i => PyData.int (i : Nat))) = true := by
  have e1 : ∀ path : List Nat, PyData.canLayAll0 (path.map fun i => PyData.int (i : Nat)) = true ∧ PyData.depthAll (path.map fun i => PyData.int (i : Nat)) = 0 := by
    intro path
    induction path with
    | nil => exact ⟨by rw [List.map_nil, PyData.canLayAll0], by rw [List.map_nil, PyData.depthAll]⟩
    | cons c r ih =>
      rw [List.map_cons, PyData.canLayAll0, PyData.depthAll, ih.1, ih.2]
      exact ⟨by simp [PyData.canLay0], by simp [PyData.depth]⟩
  unfold SeqAt.shaped
  rw [PyData.canLay0, (e1 path).1, PyData.depth, (e1 path).2]
  rfl
theorem dp_path {K : PySem.W.Frag} {H : Hp} (path : List Nat) : DpAll K H (path.map fun i => V.int (i : Nat)) (path.map fun i => PyData.int (i : Nat)) := by
  induction path with
  | nil => exact .nil
  | cons c r ih => exact .cons (.int _) ih
theorem sizeL_set : ∀ {es : List PyData} {j : Nat} {e x : PyData}, es[j]? = some e → sizeL (es.set j x) + sizeD e = sizeL es + sizeD x
  | [], _, _, _, h => by simp at h
  | a :: r, 0, e, x, h => by
    cases h
    show sizeL (x :: r) + sizeD a = sizeL (a :: r) + sizeD x
    rw [sizeL, sizeL]
    omega
  | a :: r, j + 1, e, x, h => by
    have ih := sizeL_set (es := r) (j := j) (e := e) (x := x) h
    show sizeL (a :: r.set j x) + sizeD e = sizeL (a :: r) + sizeD x
    rw [sizeL, sizeL]
    omega
theorem goodL_set {es : List PyData} {j : Nat} {x : PyData} (h : goodL es = true) (hx : goodD x = true) : goodL (es.set j x) = true := by
  rw [goodL_all] at h ⊢
  intro d hd
  rcases List.mem_or_eq_of_mem_set hd with z | z
  · exact h d z
  · rw [z]; exact hx
theorem dpAll_set {K : PySem.W.Frag} {H : Hp} {v : V} {x : PyData} (hx : Dp K H v x) : ∀ {vs : List V} {ds : List PyData} (j : Nat), DpAll K H vs ds → DpAll K H (vs.set j v) (ds.set j x)
  | _, _, _, .nil => .nil
  | _, _, 0, .cons _ r => .cons hx r
  | _, _, j + 1, .cons h r => .cons h (dpAll_set hx j r)
section
variable {P : Program} {w : World} {K : PySem.W.Frag} {mg : Str → Option Value} {base : Heap}
def spChange (K : PySem.W.Frag) (n : Nat) : Sp := fun vs H Q _ => ∃ (v : V) (d : PyData) (u : V) (path : List Nat) (g : Addr) (ds : List Int), vs = [v, u, .ref g] ∧ Dp K H v d ∧ goodD d = true ∧ sizeD d ≤ 1000 ∧ PathAt K H u path ∧ VPath d path ∧ path.length < n ∧
  SqL K H g (ds.map V.int) ∧ Nn ds ∧ 4 ≤ ds.length ∧
  ∀ (v' : V) (e : PyData) (H' : Hp), Le H H' → Dp K H' v' e → goodD e = true → sizeD e ≤ 2 * sizeD d + 2 → Q v' H'
theorem ok_change (G : Gx K mg) (k : Nat) : ∀ n : Nat, FnOk P w K mg base CX0 (n + k + 1) G.f__law_change_at G.fd__law_change_at ["value", "path", "digits"] (spChange K n)
  | 0 => by
    have no : ∀ vs H Q E, ¬ spChange K 0 vs H Q E := fun vs H Q E h => by
      obtain ⟨v, d, u, path, g, ds, _, _, _, _, _, _, h1, _⟩ := h
      omega
    exact ⟨fun vs H Q E h => absurd h (no vs H Q E), fun A outer s H args us vs Q E _ _ _ _ h => absurd h (no vs H Q E)⟩
  | n + 1 => by
    have G__law_change_at := FnOk.frame (ok_change G k n)
    have G__law_other_value : FnOk P w K mg base CX0 (n + k + 1) G.f__law_other_value G.fd__law_other_value ["value", "digits"] (spOther K) := ok_other G (n + k)
    have G__law_moved_item : FnOk P w K mg base CX0 (n + k + 1) G.f__law_moved_item G.fd__law_moved_item ["items", "index", "digits"] (spMoved K) := ok_moved G (n + k)
    have lev : n + 1 + k + 1 = (n + k + 1) + 1 := by omega
    rw [lev]
    refine G.F__law_change_at.ok sc__law_change_at (fun vs H Q E h => ?_) (fun cdv A outer s H vs Q E hr h => ?_)
    · obtain ⟨v, d, u, path, g, ds, rfl, _⟩ := h
      rfl
    obtain ⟨v, d, u, path, g, ds, rfl, hd, hz, hsz, ⟨pa, rfl, hpa⟩, hv, hn, hG, hnn, hdl, q⟩ := h
    refine ⟨_, (pss_cons (ps_if (pt_cmpR (op_eqD hr.units) (pv 1) (pe_tup pa_nil) (nomark _)) (pss_one (ps_ret (pe_call G__law_other_value hr (by rfl) G.m__law_other_value G.F__law_other_value.kp G.b__law_other_value .nil pass0 (pa_cons (pv 0) (pa_cons (pv 2) pa_nil))))) pss_nil)
    (pss_cons (ps_set (i := 3) sc__law_change_at.nd rfl (.inl rfl) (pe_callTy call_list_of (by rfl) G.list (by decide +kernel) (pa_cons (pv 0) pa_nil)))
    (Evl.pss_cut (ps_if (PW.pt (pw_and (pt_cmpR op_eq (pe_callB call_len_seq (by rfl) G.len PySem.boot_len (pa_cons (pv 1) pa_nil)) pe_int (nomark _)) (pw_and1 (pt_cmpR op_eq (pe_op op_mod (pe_ix ix_list (pv 2) pe_int (fun _ _ => rfl)) pe_int) pe_int (nomark _))))) (pss_one (ps_set (i := 3) sc__law_change_at.nd rfl (.inl rfl) (pe_call G__law_moved_item hr (by rfl) G.m__law_moved_item G.F__law_moved_item.kp G.b__law_moved_item .nil pass0 (pa_cons (pv 3) (pa_cons (pe_ix ix_tup (pv 1) pe_int (fun _ _ => rfl)) (pa_cons (pv 2) pa_nil)))))) (pss_one (ps_asg (pe_call G__law_change_at hr (by rfl) G.m__law_change_at G.F__law_change_at.kp G.b__law_change_at .nil pass0 (pa_cons (pe_ix ix_list (pv 3) (pe_ix ix_tup (pv 1) pe_int (fun _ _ => rfl)) (fun _ _ => rfl)) (pa_cons (pe_slice sl_tup (pv 1) (po_some pe_int) po_none) (pa_cons (pv 2) pa_nil)))) (pg_sub (pv 3) (pe_ix ix_tup (pv 1) pe_int (fun _ _ => rfl)) set_list))))
    (pss_one (ps_ret (pe_ifExp (pt_val (pe_callB call_isi (by rfl) G.isinstance (by decide +kernel) (pa_cons (pv 0) (pa_cons (pe_bltn (v := .ty "list") (u := .type "list") (by rfl) G.list (by decide +kernel) rfl) pa_nil)))) (pv 3) (pe_callTy call_tuple_of (by rfl) G.tuple (by decide +kernel) (pa_cons (pv 3) pa_nil)))))))), ?_⟩
    refine ⟨_, rfl, Nat.zero_le _, fun t0 ht0 => ?_⟩
    have l0 := Le.new (o := .tup []) ht0
    refine ⟨.tuple (path.map fun i => PyData.int (i : Nat)), .tuple [], .tup (l0.sqt hpa) (dp_path path), .tup (sqt upd_same) .nil, shaped_path path, shaped_path [], _, rfl, ?_⟩
    rw [eqv_path]
    generalize upd H t0 (.tup []) = H0 at l0
    match path, hpa, hv, hn with
    | [], _, _, _ =>
      refine iteT ⟨_, rfl, _, rfl, v, d, g, ds, rfl, l0.dp hd, hz, l0.sql hG, hnn, by omega, fun u e H' l1 h1 h2 h3 => ?_⟩
      exact q u e H' (l0.trans l1) h1 h2 (by omega)
    | i :: pr, hpa, hv, hn =>
      obtain ⟨xs, e, hi, hei, hve⟩ := hv
      obtain ⟨a, us, rfl, hS, hAll⟩ := dp_items hd hi
      have hlen := dpAll_length hAll
      have hil : i < xs.length := (List.getElem?_eq_some_iff.mp hei).1
      have hse := sizeL_mem (List.mem_of_getElem? hei)
      have hgx : goodL xs = true := by rw [← good_items hi]; exact hz
      have hge : goodD e = true := goodL_mem hgx (List.mem_of_getElem? hei)
      have hsx := size_items hi
      obtain ⟨x, hxi, hxe⟩ := dpAll_get hAll hei
      obtain ⟨d3, d3n, _, d3e⟩ := nn_at (i := 3) hnn (by decide) (by omega)
      refine iteF ⟨_, rfl, a, us, rfl, l0.sqs hS, fun it hit => ?_⟩
      have l1 := l0.trans (Le.new (o := .lst us) hit)
      have hitH : H it = none := l0.dom _ hit
      have kit : upd H0 it (.lst us) it = some (.lst us) := upd_same
      generalize upd H0 it (.lst us) = H1 at l1 kit
      -- the items, changed
      refine ⟨fun σ' H' => ∃ (it : Addr) (us' : List V) (es' : List PyData), σ' = [some (.ref a), some (.ref pa), some (.ref g), some (.ref it)] ∧ Le H H' ∧ H' it = some (.lst us') ∧ DpAll K H' us' es' ∧ goodL es' = true ∧ sizeL es' ≤ 2 * sizeL xs + 2, ?_, fun σ' H' hM => ?_⟩
      · have hixN : ixN us.length ((i : Nat) : Int) = some i := by
          unfold ixN
          rw [if_pos (by omega), if_pos (by omega), Int.toNat_natCast]
        have chg : tAsg (tCall (framed (spChange K n)) [] E0 (tCons (tOp (rIxL K) (tVar 3) (tOp (rIxT K) (tVar 1) (tC (.int 0)))) (tCons (tSl (rSlT K) (tVar 1) (tPart (tC (.int 1))) tNoPart) (tCons (tVar 2) tNil)))) (gSub (tVar 3) (tOp (rIxT K) (tVar 1) (tC (.int 0))) rSetL)
            { nx := fun σ' H' => ∃ (it : Addr) (us' : List V) (es' : List PyData), σ' = [some (.ref a), some (.ref pa), some (.ref g), some (.ref it)] ∧ Le H H' ∧ H' it = some (.lst us') ∧ DpAll K H' us' es' ∧ goodL es' = true ∧ sizeL es' ≤ 2 * sizeL xs + 2, rt := Q }
            [some (.ref a), some (.ref pa), some (.ref g), some (.ref it)] H1 := by
          refine ⟨_, rfl, _, rfl, pa, _, _, _, rfl, rfl, l1.sqt hpa, atI_nat (j := 0) rfl, it, _, _, _, rfl, rfl, sql kit, atI_nat hxi, _, rfl, 1, rfl, pa, _, rfl, l1.sqt hpa, ?_, fun p1 hp1 => ?_⟩
          · intro z
            have z1 := z.1
            rw [show HT.sIx ((i :: pr).map fun i => V.int (i : Nat)).length 0 (some 1) = min 1 ((i :: pr).map fun i => V.int (i : Nat)).length from HT.sIx_nat _ 0 1, List.length_map, List.length_cons] at z1
            omega
          have c1 := l1.trans (Le.new (o := .tup (cutV ((i :: pr).map fun i => V.int (i : Nat)) (some 1) none)) hp1)
          have kit2 := (Le.new (o := .tup (cutV ((i :: pr).map fun i => V.int (i : Nat)) (some 1) none)) hp1).lst kit
          have kp1 : upd H1 p1 (.tup (cutV ((i :: pr).map fun i => V.int (i : Nat)) (some 1) none)) p1 = some (.tup (pr.map fun i => V.int (i : Nat))) := by
            rw [upd_same, cut_from (by decide)]
            rfl
          generalize upd H1 p1 (.tup (cutV ((i :: pr).map fun i => V.int (i : Nat)) (some 1) none)) = H2 at c1 kit2 kp1
          have c2 := c1.asideR hitH
          have np1 : p1 ≠ it := ne_of kp1 kit2 (by intro z; cases z)
          refine ⟨_, rfl, it, us, kit2, x, e, _, pr, g, ds, rfl, c2.dp hxe, hge, by omega, ⟨p1, rfl, sqt ((aside_ne np1).trans kp1)⟩, hve, by simp only [List.length_cons] at hn; omega, c2.sql hG, hnn, hdl, fun v' e' H3 l3 h1 h2 h3 free => ?_⟩
          have c3 : Le H (upd H3 it (.lst us)) := (c2.trans l3).mut hitH
          refine ⟨_, rfl, _, rfl, pa, _, _, _, rfl, rfl, c3.sqt hpa, atI_nat (j := 0) rfl, it, us, _, i, rfl, rfl, upd_same, hixN, ?_⟩
          have c4 : Le H (upd (upd H3 it (.lst us)) it (.lst (us.set i v'))) := c3.mut hitH
          have c5 : Le H3 (upd (upd H3 it (.lst us)) it (.lst (us.set i v'))) := (Le.new free).mut free
          have ss := sizeL_set (x := e') hei
          exact ⟨it, _, xs.set i e', rfl, c4, upd_same, dpAll_set (c5.dp h1) i (c4.dpAll hAll), goodL_set hgx h2, by omega⟩
        refine ⟨_, rfl, pa, _, rfl, .inr (l1.sqt hpa), rfl, _, rfl, ite2 (fun _ => ?_) (fun _ => iteF chg)⟩
        refine ⟨_, rfl, g, _, _, _, rfl, rfl, l1.sql hG, d3e, _, _, rfl, rfl, (by decide : (0 : Int) < 2), rfl, _, rfl, ite2 (fun _ => ?_) (fun _ => chg)⟩
        refine ⟨_, rfl, _, rfl, pa, _, _, _, rfl, rfl, l1.sqt hpa, atI_nat (j := 0) rfl, _, rfl, it, g, _, us, xs, ds, rfl, kit, l1.dpAll hAll, hgx, by omega, by omega, by omega, l1.sql hG, hnn, by omega, fun p us' es' H' l3 hp kp h1 h2 h3 => ?_⟩
        exact ⟨p, us', es', rfl, l1.trans l3, kp, h1, h2, by omega⟩
      obtain ⟨it, us', es', rfl, l2, kit2, hA2, hg2, hs2⟩ := hM
      refine ⟨_, rfl, _, _, _, _, _, rfl, .ty "list", dp_ty (l2.dp hd), kit_ty (kit_list d), _, rfl, ?_⟩
      cases hL : isListD d with
      | true => exact iteT ⟨_, rfl, q _ (.list es') H' l2 (.lst (sql kit2) hA2) (by rw [goodD]; exact hg2) (by rw [sizeD]; omega)⟩
      | false => exact iteF ⟨_, rfl, it, us', rfl, .inl ⟨sql kit2, fun p hp => q _ (.tuple es') _ (l2.trans (Le.new hp)) (.tup (sqt upd_same) ((Le.new hp).dpAll hA2)) (by rw [goodD]; exact hg2) (by rw [sizeD]; omega)⟩⟩
def spMut (K : PySem.W.Frag) : Sp := fun vs H Q _ => ∃ (v : V) (d : PyData) (g : Addr) (ds : List Int), vs = [v, .ref g] ∧ Dp K H v d ∧ goodD d = true ∧ sizeD d ≤ 70 ∧ SqL K H g (ds.map V.int) ∧ Nn ds ∧ 5 ≤ ds.length ∧
  ∀ (v' : V) (e : PyData) (H' : Hp), Le H H' → Dp K H' v' e → goodD e = true → sizeD e ≤ 2 * sizeD d + 2 → Q v' H'
theorem ok_mut (G : Gx K mg) (k : Nat) : FnOk P w K mg base CX0 (70 + k + 2) G.f__law_mutated G.fd__law_mutated ["value", "digits"] (spMut K) := by
  have G__law_paths := ok_paths (P := P) (w := w) (base := base) G k 70
  have G__law_change_at := ok_change (P := P) (w := w) (base := base) G k 70
  refine G.F__law_mutated.ok sc__law_mutated (fun vs H Q E h => ?_) (fun cdv A outer s H vs Q E hr h => ?_)
  · obtain ⟨v, d, g, ds, rfl, _⟩ := h
    rfl
  obtain ⟨v, d, g, ds, rfl, hd, hz, hsz, hG, hnn, hdl, q⟩ := h
  refine ⟨_, (pss_cons (ps_set (i := 2) sc__law_mutated.nd rfl (.inl rfl) (pe_call G__law_paths hr (by rfl) G.m__law_paths G.F__law_paths.kp G.b__law_paths .nil pass0 (pa_cons (pv 0) pa_nil)))
    (pss_one (ps_ret (pe_call G__law_change_at hr (by rfl) G.m__law_change_at G.F__law_change_at.kp G.b__law_change_at .nil pass0 (pa_cons (pv 0) (pa_cons (pe_ix ix_list (pv 2) (pe_op op_mod (pe_ix ix_list (pv 1) pe_int (fun _ _ => rfl)) (pe_callB call_len_seq (by rfl) G.len PySem.boot_len (pa_cons (pv 2) pa_nil))) (fun _ _ => rfl)) (pa_cons (pv 1) pa_nil))))))), ?_⟩
  refine ⟨_, rfl, v, d, rfl, hd, hsz, by decide, fun p us H1 l1 hp kp c0 c1 c2 => ?_⟩
  obtain ⟨d4, d4n, _, d4e⟩ := nn_at (i := 4) hnn (by decide) (by omega)
  have upos : (0 : Int) < ((us.length : Nat) : Int) := by omega
  obtain ⟨u, hum, _, hue⟩ := atI_in (xs := us) (i := d4 % ((us.length : Nat) : Int)) (Int.emod_nonneg _ (by omega)) (Int.emod_lt_of_pos _ upos)
  obtain ⟨path, hv, hpa⟩ := c2 u hum
  have hpl := vpath_len hv
  refine ⟨_, rfl, _, rfl, _, rfl, g, _, _, _, rfl, rfl, l1.sql hG, d4e, _, rfl, p, _, rfl, .inl (sql kp), _, _, rfl, rfl, upos, p, _, _, _, rfl, rfl, sql kp, hue, _, rfl, v, d, u, path, g, ds, rfl, l1.dp hd, hz, by omega, hpa, hv, by omega, l1.sql hG, hnn, by omega, fun v' e H' l2 h1 h2 h3 => ?_⟩
  exact q v' e H' (l1.trans l2) h1 h2 h3
end
end Wr

set_option Elab.async false
set_option linter.all false
set_option maxRecDepth 100000
set_option maxHeartbeats 2000000
namespace Wr
open PySem PySem.Spec PyProof.Rows L2
theorem Le.asideL {it : Addr} {H : Hp} : Le (aside it H) H := by
  refine ⟨fun b o e n => ?_, fun P ⟨ps, e, t⟩ => ⟨ps, ?_, t⟩, fun b e => ?_⟩
  · by_cases z : b = it
    · rw [z, aside_at] at e; cases e
    · rw [aside_ne z] at e; exact e
  · by_cases z : P = it
    · rw [z, aside_at] at e; cases e
    · rw [aside_ne z] at e; exact e
  · by_cases z : b = it
    · rw [z]; exact aside_at
    · rw [aside_ne z]; exact e
theorem aside_upd {it : Addr} {H : Hp} {o : HO} : aside it (upd H it o) = aside it H := by
  funext b
  by_cases z : b = it
  · rw [z, aside_at, aside_at]
  · rw [aside_ne z, aside_ne z, upd_ne z]
theorem aside_none {it : Addr} {H : Hp} (h : H it = none) : aside it H = H := by
  funext b
  by_cases z : b = it
  · rw [z, aside_at, h]
  · rw [aside_ne z]
/-- Le while a list is set aside -/
theorem Le.aside {it : Addr} {H H1 : Hp} (l : Le H H1) (h : H it ≠ none) : Le (aside it H) (aside it H1) := by
  refine ⟨fun b o e n => ?_, fun P ⟨ps, e, t⟩ => ?_, fun b e => ?_⟩
  · by_cases z : b = it
    · rw [z, aside_at] at e; cases e
    · rw [aside_ne z] at e ⊢
      exact l.keep b o e n
  · by_cases z : P = it
    · rw [z, aside_at] at e; cases e
    · rw [aside_ne z] at e
      obtain ⟨ps2, e2, t2⟩ := l.tab P ⟨ps, e, t⟩
      exact ⟨ps2, by rw [aside_ne z]; exact e2, t2⟩
  · by_cases z : b = it
    · rw [z]; exact aside_at
    · rw [aside_ne z] at e ⊢
      exact l.dom b e
def szA : Nat → Nat
  | 0 => 1
  | n + 1 => 1 + 3 * szA n
theorem szA_pos (n : Nat) : 1 ≤ szA n := by cases n <;> simp only [szA] <;> omega
theorem szA_small : ∀ n, n ≤ 4 → szA n ≤ 121
  | 0, _ => by decide
  | 1, _ => by decide
  | 2, _ => by decide
  | 3, _ => by decide
  | 4, _ => by decide
section
variable {P : Program} {w : World} {K : PySem.W.Frag} {mg : Str → Option Value} {base : Heap}
def spAny (K : PySem.W.Frag) (n : Nat) : Sp := fun vs H Q _ => ∃ (g : Addr) (dp : Int) (ds : List Int), vs = [.ref g, .int dp] ∧ SqL K H g (ds.map V.int) ∧ Nn ds ∧ 9 ≤ ds.length ∧ ds.length ≤ 1000 ∧ 0 ≤ dp ∧ dp ≤ 4 ∧ 5 ≤ dp + n ∧
  ∀ (v : V) (e : PyData) (H' : Hp), Le H H' → Dp K H' v e → goodD e = true → sizeD e ≤ szA (4 - dp).toNat → Q v H'
def anyStrs : List Str := ["", "0", "a", "ax", "3", "none", "A", "~"]
theorem anyStrs_good : ∀ z ∈ anyStrs, goodD (.str z) = true := by
  intro z hz
  rw [goodD]
  revert z
  decide +kernel
theorem ok_any (G : Gx K mg) (k : Nat) : ∀ n : Nat, FnOk P w K mg base CX0 (n + k + 1) G.f__law_any_value G.fd__law_any_value ["digits", "depth"] (spAny K n)
  | 0 => by
    have no : ∀ vs H Q E, ¬ spAny K 0 vs H Q E := fun vs H Q E h => by
      obtain ⟨g, dp, ds, _, _, _, _, _, _, h1, h2, _⟩ := h
      omega
    exact ⟨fun vs H Q E h => absurd h (no vs H Q E), fun A outer s H args us vs Q E _ _ _ _ h => absurd h (no vs H Q E)⟩
  | n + 1 => by
    have G__law_any_value := FnOk.frame (ok_any G k n)
    have lev : n + 1 + k + 1 = (n + k + 1) + 1 := by omega
    rw [lev]
    refine G.F__law_any_value.ok sc__law_any_value (fun vs H Q E h => ?_) (fun cdv A outer s H vs Q E hr h => ?_)
    · obtain ⟨g, dp, ds, rfl, _⟩ := h
      rfl
    obtain ⟨g, dp, ds, rfl, hG, hnn, hl9, hl1, p0, p4, hdn, q⟩ := h
    refine ⟨_, (pss_cons (ps_set (i := 2) sc__law_any_value.nd rfl (.inl rfl) (pe_op op_mod (pe_ix ix_list (pv 0) (pv 1) (fun _ _ => rfl)) pe_int))
    (pss_cons (ps_set (i := 3) sc__law_any_value.nd rfl (.inl rfl) (pe_ix ix_list (pe_lst (pa_cons (pe_op op_sub (pe_op op_mod (pe_ix ix_list (pv 0) (pe_op op_add (pv 1) pe_int) (fun _ _ => rfl)) pe_int) pe_int) (pa_cons (pe_op op_sub pe_int (pe_op op_pow pe_int pe_int)) (pa_cons (pe_op op_pow pe_int pe_int) pa_nil)))) (pe_op op_mod (pe_ix ix_list (pv 0) (pe_op op_add (pv 1) pe_int) (fun _ _ => rfl)) pe_int) (fun _ _ => rfl)))
    (pss_cons (ps_if (PW.pt (pw_or (pt_cmpR op_lt (pv 2) pe_int (nomark _)) (pw_or1 (pt_cmpR op_gt (pv 1) pe_int (nomark _))))) (pss_one (ps_ret (pv 3))) pss_nil)
    (pss_cons (ps_if (pt_cmpR op_lt (pv 2) pe_int (nomark _)) (pss_one (ps_ret (pe_ix ix_list (pe_lst (pa_cons pe_bl (pa_cons pe_bl (pa_cons pe_non pa_nil)))) (pe_op op_sub (pv 2) pe_int) (fun _ _ => rfl)))) pss_nil)
    (pss_cons (ps_if (pt_cmpR op_lt (pv 2) pe_int (nomark _)) (pss_one (ps_ret (pe_ix ix_list (pe_lst (pa_cons pe_str (pa_cons pe_str (pa_cons pe_str (pa_cons pe_str (pa_cons pe_str (pa_cons pe_str (pa_cons pe_str (pa_cons pe_str pa_nil))))))))) (pe_op op_mod (pe_ix ix_list (pv 0) (pe_op op_add (pv 1) pe_int) (fun _ _ => rfl)) pe_int) (fun _ _ => rfl)))) pss_nil)
    (pss_cons (ps_setLc (i := 4) (own := [("k", 5)]) (g := gName 5) (tt := tYes) (by rfl) sc__law_any_value.nd rfl rfl (sw_true rfl rfl rfl (by decide +kernel)) (pi_range1 (by rfl) G.range (pa_cons (pe_op op_mod (pe_ix ix_list (pv 0) (pe_op op_add (pv 1) pe_int) (fun _ _ => rfl)) pe_int) pa_nil)) (blkOk_by (own := [("k", 5)]) (N := N__law_any_value) (sc := defScope s__law_any_value) (by decide +kernel)) (fun _ _ _ _ _ => (pg_name (i := 5) sc__law_any_value.nd rfl (.inl rfl) (.inr rfl))) (fun _ _ _ _ _ => pts_nil) (fun _ _ _ _ _ => (pe_call G__law_any_value hr (by rfl) G.m__law_any_value G.F__law_any_value.kp G.b__law_any_value .nil pass0 (pa_cons (pe_op op_cat (pe_slice (r := rSlL K) sl_list (pv 0) (po_some (pv 5)) po_none) (pe_slice (r := rSlL K) sl_list (pv 0) po_none (po_some (pv 5)))) (pa_cons (pe_op op_add (pv 1) pe_int) pa_nil)))))
    (pss_one (ps_ret (pe_ifExp (pt_cmpR op_eq (pv 2) pe_int (nomark _)) (pv 4) (pe_callTy call_tuple_of (by rfl) G.tuple (by decide +kernel) (pa_cons (pv 4) pa_nil))))))))))), ?_⟩
    obtain ⟨c0, c0n, _, c0e⟩ := nn_at (i := dp) hnn (by omega) (by omega)
    obtain ⟨c1, c1n, _, c1e⟩ := nn_at (i := dp + 1) hnn (by omega) (by omega)
    obtain ⟨c2, c2n, _, c2e⟩ := nn_at (i := dp + 2) hnn (by omega) (by omega)
    obtain ⟨c3, c3n, _, c3e⟩ := nn_at (i := dp + 3) hnn (by omega) (by omega)
    obtain ⟨c4, c4n, _, c4e⟩ := nn_at (i := dp + 4) hnn (by omega) (by omega)
    have pos1 := szA_pos (4 - dp).toNat
    -- choice
    refine ⟨_, rfl, _, rfl, g, _, _, _, rfl, rfl, hG, c0e, _, _, rfl, rfl, (by decide : (0 : Int) < 12), ?_⟩
    dsimp only
    have ch0 : 0 ≤ c0 % 12 := by omega
    have ch1 : c0 % 12 < 12 := by omega
    generalize c0 % 12 = ch at ch0 ch1
    -- number
    refine ⟨_, rfl, _, rfl, _, _, rfl, rfl, g, _, _, _, rfl, rfl, hG, c1e, _, _, rfl, rfl, (by decide : (0 : Int) < 12), _, _, rfl, rfl, _, _, rfl, rfl, ⟨by decide, by decide, by decide⟩, _, _, rfl, rfl, _, _, rfl, rfl, ⟨by decide, by decide, by decide⟩, (by decide : 3 ≤ sizeLine), fun l1 hl1 => ?_⟩
    have a1 := Le.new (o := .lst [.int (c1 % 12 - 2), .int (0 - 10 ^ (39 : Int).toNat), .int (10 ^ (39 : Int).toNat)]) hl1
    obtain ⟨nb, hnb⟩ : ∃ i : Int, atI [V.int (c1 % 12 - 2), V.int (0 - 10 ^ (39 : Int).toNat), V.int (10 ^ (39 : Int).toNat)] (c2 % 3) = some (.int i) := by
      have z0 : c2 % 3 = 0 ∨ c2 % 3 = 1 ∨ c2 % 3 = 2 := by omega
      rcases z0 with z | z | z <;> rw [z] <;> exact ⟨_, rfl⟩
    refine ⟨_, rfl, _, rfl, _, _, rfl, rfl, g, _, _, _, rfl, rfl, a1.sql hG, c2e, _, _, rfl, rfl, (by decide : (0 : Int) < 3), l1, _, _, _, rfl, rfl, sql upd_same, hnb, ?_⟩
    generalize upd H l1 (.lst [.int (c1 % 12 - 2), .int (0 - 10 ^ (39 : Int).toNat), .int (10 ^ (39 : Int).toNat)]) = H1 at a1
    have num : Q (.int nb) H1 := q _ (.int nb) H1 a1 (.int nb) (by simp [goodD]) (by simp only [sizeD]; exact pos1)
    refine ⟨_, rfl, _, _, rfl, rfl, _, rfl, ite2 (fun _ => iteT ⟨_, rfl, num⟩) (fun _ => ?_)⟩
    refine ⟨_, rfl, _, _, rfl, rfl, _, rfl, ite2 (fun _ => ⟨_, rfl, num⟩) (fun hd3 => ?_)⟩
    have hd3' : ¬ dp > 3 := fun z => hd3 (decide_eq_true z)
    have esz : (4 - dp).toNat = (4 - (dp + 1)).toNat + 1 := by omega
    -- True, False, None
    refine ⟨_, rfl, _, _, rfl, rfl, _, rfl, ite2 (fun h7 => ?_) (fun h7 => ?_)⟩
    · have h7' : ch < 7 := of_decide_eq_true h7
      refine ⟨(by decide : 3 ≤ sizeLine), fun l2 hl2 => ?_⟩
      by_cases h4 : ch < 4
      · exact absurd (decide_eq_true h4) (by assumption)
      · have z0 : ch - 4 = 0 ∨ ch - 4 = 1 ∨ ch - 4 = 2 := by omega
        have l3 := a1.trans (Le.new (o := .lst [.bl true, .bl false, .non]) hl2)
        rcases z0 with z | z | z
        · refine ⟨_, rfl, _, _, rfl, rfl, l2, _, _, _, rfl, rfl, sql upd_same, ?_, q _ (.bool true) _ l3 (.bl true) (by simp [goodD]) (by simp only [sizeD]; exact pos1)⟩
          rw [z]
          rfl
        · refine ⟨_, rfl, _, _, rfl, rfl, l2, _, _, _, rfl, rfl, sql upd_same, ?_, q _ (.bool false) _ l3 (.bl false) (by simp [goodD]) (by simp only [sizeD]; exact pos1)⟩
          rw [z]
          rfl
        · refine ⟨_, rfl, _, _, rfl, rfl, l2, _, _, _, rfl, rfl, sql upd_same, ?_, q _ .none _ l3 .non (by simp [goodD]) (by simp only [sizeD]; exact pos1)⟩
          rw [z]
          rfl
    -- texts
    refine ⟨_, rfl, _, _, rfl, rfl, _, rfl, ite2 (fun h9 => ?_) (fun h9 => ?_)⟩
    · refine ⟨(by decide : 8 ≤ sizeLine), fun l2 hl2 => ?_⟩
      have l3 := Le.new (o := .lst (anyStrs.map V.str)) hl2
      have i0 : 0 ≤ c3 % 8 := by omega
      have i1 : c3 % 8 < (anyStrs.length : Int) := by
        show c3 % 8 < 8
        omega
      have hi : (c3 % 8).toNat < anyStrs.length := by omega
      have ha : atI (anyStrs.map V.str) (c3 % 8) = some (.str anyStrs[(c3 % 8).toNat]) := by
        have z := atI_nat (xs := anyStrs.map V.str) (j := (c3 % 8).toNat) (v := .str anyStrs[(c3 % 8).toNat]) (by rw [List.getElem?_map, List.getElem?_eq_getElem hi]; rfl)
        rw [show (((c3 % 8).toNat : Nat) : Int) = c3 % 8 by omega] at z
        exact z
      exact ⟨_, rfl, _, rfl, _, _, rfl, rfl, g, _, _, _, rfl, rfl, (a1.trans l3).sql hG, c3e, _, _, rfl, rfl, (by decide : (0 : Int) < 8), l2, _, _, _, rfl, rfl, sql upd_same, ha, q _ _ _ (a1.trans l3) (.str _) (anyStrs_good _ (List.getElem_mem hi)) (by simp only [sizeD]; exact pos1)⟩
    -- parts
    have cnt0 : 0 ≤ c4 % 4 := by omega
    have cnt1 : c4 % 4 < 4 := by omega
    refine ⟨_, rfl, _, rfl, _, _, rfl, rfl, g, _, _, _, rfl, rfl, a1.sql hG, c4e, _, _, rfl, rfl, (by decide : (0 : Int) < 4), c4 % 4, rfl, by omega, by omega, fun D hD => ?_⟩
    have hDH : H D = none := a1.dom _ hD
    refine lc_range (lo := 0) (n := (c4 % 4).toNat) (fun i H' => ∃ (ws : List V) (es : List PyData), Le H H' ∧ H' D = some (.lst ws) ∧ ws.length = i ∧ DpAll K (aside D H') ws es ∧ goodL es = true ∧ sizeL es ≤ i * szA (4 - (dp + 1)).toNat) ?_ ?_ ?_
    · exact ⟨[], [], a1.trans (Le.new hD), upd_same, rfl, .nil, rfl, by simp [sizeL]⟩
    · rintro i H2 hi ⟨ws, es, l2, kD, wl, wA, wg, wz⟩
      refine ⟨rfl, ?_⟩
      have k0 : (0 : Int) ≤ 0 + (i : Int) := by omega
      refine ⟨_, rfl, _, rfl, _, rfl, g, _, rfl, l2.sql hG, fun p1 hp1 => ?_⟩
      have b1 := Le.new (o := .lst (cutV (ds.map V.int) (some (0 + (i : Int))) none)) hp1
      refine ⟨_, rfl, _, rfl, _, rfl, g, _, rfl, (l2.trans b1).sql hG, fun p2 hp2 => ?_⟩
      have b2 := Le.new (o := .lst (cutV (ds.map V.int) none (some (0 + (i : Int))))) hp2
      refine ⟨p1, p2, _, _, rfl, rfl, b2.lst upd_same, upd_same, ?_, fun p3 hp3 => ?_⟩
      · have z1 := cutV_length (ds.map V.int) (some (0 + (i : Int))) none
        have z2 := cutV_length (ds.map V.int) none (some (0 + (i : Int)))
        rw [List.length_map] at z1 z2
        exact sz (by omega)
      have b3 := Le.new (o := .lst (cutV (ds.map V.int) (some (0 + (i : Int))) none ++ cutV (ds.map V.int) none (some (0 + (i : Int))))) hp3
      have k3 : upd (upd (upd H2 p1 (.lst (cutV (ds.map V.int) (some (0 + (i : Int))) none))) p2 (.lst (cutV (ds.map V.int) none (some (0 + (i : Int)))))) p3 (.lst (cutV (ds.map V.int) (some (0 + (i : Int))) none ++ cutV (ds.map V.int) none (some (0 + (i : Int))))) p3 = some (.lst ((ds.drop (0 + (i : Int)).toNat ++ ds.take (0 + (i : Int)).toNat).map V.int)) := by
        rw [upd_same, cut_from k0, cut_to k0, List.map_append, List.map_drop, List.map_take]
      have b := b1.trans (b2.trans b3)
      generalize upd (upd (upd H2 p1 (.lst (cutV (ds.map V.int) (some (0 + (i : Int))) none))) p2 (.lst (cutV (ds.map V.int) none (some (0 + (i : Int)))))) p3 (.lst (cutV (ds.map V.int) (some (0 + (i : Int))) none ++ cutV (ds.map V.int) none (some (0 + (i : Int))))) = H3 at k3 b
      have kD3 := b.lst kD
      have np3 : p3 ≠ D := fun z => by
        have n2 : upd (upd H2 p1 (.lst (cutV (ds.map V.int) (some (0 + (i : Int))) none))) p2 (.lst (cutV (ds.map V.int) none (some (0 + (i : Int))))) D = some (.lst ws) := (b1.trans b2).lst kD
        rw [z, n2] at hp3
        cases hp3
      have wA3 : DpAll K (aside D H3) ws es := (b.aside (by rw [kD]; simp)).dpAll wA
      refine ⟨_, rfl, _, _, rfl, rfl, D, ws, kD3, p3, dp + 1, ds.drop (0 + (i : Int)).toNat ++ ds.take (0 + (i : Int)).toNat, rfl, sql ((aside_ne np3).trans k3), ?_, ?_, ?_, by omega, by omega, by omega, fun v e H4 l4 h1 h2 h3 free => ?_⟩
      · intro x hx
        rcases List.mem_append.mp hx with z | z
        · exact hnn x (List.mem_of_mem_drop z)
        · exact hnn x (List.mem_of_mem_take z)
      · rw [List.length_append, List.length_drop, List.length_take]
        omega
      · rw [List.length_append, List.length_drop, List.length_take]
        omega
      have l5 : Le H H4 := (l2.trans b).asideR hDH |>.trans l4
      refine ⟨ws, upd_same, szlt (by omega), ws ++ [v], es ++ [e], (l5.mut hDH).mut hDH, upd_same, by rw [List.length_append, wl]; rfl, ?_, goodL_append wg (goodL_one h2), ?_⟩
      · rw [aside_upd, aside_upd, aside_none free]
        exact dpAll_append (l4.dpAll wA3) (.cons h1 .nil)
      · rw [sizeL_last, Nat.succ_mul]
        omega
    · rintro H2 ⟨ws, es, l2, kD, wl, wA, wg, wz⟩
      have wA2 : DpAll K H2 ws es := Le.asideL.dpAll wA
      have zz : sizeL es + 1 ≤ szA (4 - dp).toNat := by
        rw [esz, szA]
        have h3 : (c4 % 4).toNat ≤ 3 := by omega
        have h4 := Nat.mul_le_mul_right (szA (4 - (dp + 1)).toNat) h3
        omega
      refine ⟨_, rfl, rfl, _, rfl, ite2 (fun _ => ?_) (fun _ => ?_)⟩
      · exact ⟨_, rfl, q _ (.list es) H2 l2 (.lst (sql kD) wA2) (by rw [goodD]; exact wg) (by rw [sizeD]; exact zz)⟩
      · exact ⟨_, rfl, D, ws, rfl, .inl ⟨sql kD, fun p hp => q _ (.tuple es) _ (l2.trans (Le.new hp)) (.tup (sqt upd_same) ((Le.new hp).dpAll wA2)) (by rw [goodD]; exact wg) (by rw [sizeD]; exact zz)⟩⟩
end
end Wr

set_option Elab.async false
set_option linter.all false
set_option maxRecDepth 100000
set_option maxHeartbeats 2000000
namespace Wr
open PySem PySem.Spec PyProof.Rows L2
/-! ### good values, by size -/
section
variable {K : PySem.W.Frag} {H H1 : Hp}
def GdN (n : Nat) (K : PySem.W.Frag) (H : Hp) (v : V) : Prop := ∃ e, Dp K H v e ∧ goodD e = true ∧ sizeD e ≤ n
def GdL (n : Nat) (K : PySem.W.Frag) (H : Hp) (vs : List V) : Prop := ∃ es, DpAll K H vs es ∧ goodL es = true ∧ sizeL es ≤ n
theorem Le.gd (l : Le H H1) {n : Nat} {v : V} (h : GdN n K H v) : GdN n K H1 v := let ⟨e, h1, h2⟩ := h; ⟨e, l.dp h1, h2⟩
theorem GdN.up {n m : Nat} {v : V} (h : GdN n K H v) (hm : n ≤ m) : GdN m K H v := let ⟨e, h1, h2, h3⟩ := h; ⟨e, h1, h2, by omega⟩
theorem gd_int (i : Int) : GdN 1 K H (.int i) := ⟨.int i, .int i, by simp [goodD], by simp [sizeD]⟩
theorem gd_bl (b : Bool) : GdN 1 K H (.bl b) := ⟨.bool b, .bl b, by simp [goodD], by simp [sizeD]⟩
theorem gd_str (z : Str) (h : goodD (.str z) = true) : GdN 1 K H (.str z) := ⟨.str z, .str z, h, by simp [sizeD]⟩
theorem gdl_nil : GdL 0 K H [] := ⟨[], .nil, rfl, by simp [sizeL]⟩
theorem gdl_cons {n m : Nat} {v : V} {vs : List V} (h : GdN n K H v) (r : GdL m K H vs) : GdL (n + m) K H (v :: vs) := by
  obtain ⟨e, h1, h2, h3⟩ := h
  obtain ⟨es, r1, r2, r3⟩ := r
  exact ⟨e :: es, .cons h1 r1, by rw [goodL, h2, r2]; rfl, by rw [sizeL]; omega⟩
theorem gdl_all {n : Nat} : ∀ {vs : List V}, (∀ v ∈ vs, GdN n K H v) → GdL (vs.length * n) K H vs
  | [], _ => by
    show GdL (0 * n) K H []
    rw [Nat.zero_mul]
    exact gdl_nil
  | v :: r, h => by
    have q := gdl_cons (h v (List.mem_cons_self ..)) (gdl_all fun u hu => h u (List.mem_cons_of_mem _ hu))
    rw [List.length_cons, Nat.succ_mul, Nat.add_comm]
    exact q
theorem gd_tup {n : Nat} {a : Addr} {us : List V} (h : SqT K H a us) (r : GdL n K H us) : GdN (n + 1) K H (.ref a) := by
  obtain ⟨es, r1, r2, r3⟩ := r
  exact ⟨.tuple es, .tup h r1, by rw [goodD]; exact r2, by rw [sizeD]; omega⟩
theorem gd_lst {n : Nat} {a : Addr} {us : List V} (h : SqL K H a us) (r : GdL n K H us) : GdN (n + 1) K H (.ref a) := by
  obtain ⟨es, r1, r2, r3⟩ := r
  exact ⟨.list es, .lst h r1, by rw [goodD]; exact r2, by rw [sizeD]; omega⟩
theorem gd3 {a : Addr} {z : Str} {x y : V} (h : SqT K H a [.str z, x, y]) (hz : goodD (.str z) = true) (hx : GdN 1 K H x) (hy : GdN 1 K H y) : GdN 4 K H (.ref a) :=
  gd_tup h (gdl_cons (gd_str z hz) (gdl_cons hx (gdl_cons hy gdl_nil)))
theorem mem_cut {us : List V} {lo hi : Option Int} {u : V} (h : u ∈ cutV us lo hi) : u ∈ us := by
  unfold cutV at h
  exact List.mem_of_mem_drop (List.mem_of_mem_take h)
/-- the list of values at p -/
def VL (K : PySem.W.Frag) (p : Addr) (H : Hp) (n : Nat) : Prop := ∃ us, H p = some (.lst us) ∧ us.length ≤ n ∧ ∀ u ∈ us, GdN 200 K (aside p H) u
theorem VL.le {p : Addr} {n : Nat} (v : VL K p H n) (l : Le H H1) : VL K p H1 n := by
  obtain ⟨us, h1, h2, h3⟩ := v
  exact ⟨us, l.lst h1, h2, fun u hu => (l.aside (by rw [h1]; simp)).gd (h3 u hu)⟩
theorem VL.cat {p q : Addr} {n : Nat} {us ws : List V} (h1 : H p = some (.lst us)) (h2 : us.length ≤ n) (h3 : ∀ u ∈ us, GdN 200 K (aside p H) u) (hq : H q = none) (hw : ∀ u ∈ ws, GdN 200 K H u) : VL K q (upd H q (.lst (us ++ ws))) (n + ws.length) := by
  refine ⟨_, upd_same, by rw [List.length_append]; omega, fun u hu => ?_⟩
  rw [aside_upd, aside_none hq]
  rcases List.mem_append.mp hu with z | z
  · exact Le.asideL.gd (h3 u z)
  · exact hw u z
theorem VL.app {p : Addr} {n : Nat} {us : List V} {v : V} (h2 : us.length ≤ n) (h3 : ∀ u ∈ us, GdN 200 K (aside p H) u) (hv : GdN 200 K (aside p H) v) : VL K p (upd H p (.lst (us ++ [v]))) (n + 1) := by
  refine ⟨_, upd_same, by rw [List.length_append, List.length_singleton]; omega, fun u hu => ?_⟩
  rw [aside_upd]
  rcases List.mem_append.mp hu with z | z
  · exact h3 u z
  · rw [List.mem_singleton.mp z]; exact hv
end
mutual
theorem T.size : ∀ t : T, t.Ok → sizeD t.data + 1 ≤ 5 * t.leaves.length
  | .leaf n p w, _ => by simp [T.data, T.leaves, sizeD, Wr.sizeL]
  | .node ts, h => by
    rw [T.Ok] at h
    have q := T.sizeL ts h.2
    rw [T.data, T.leaves, sizeD]
    omega
theorem T.sizeL : ∀ ts : List T, T.OkL ts → Wr.sizeL (T.dataL ts) + ts.length ≤ 5 * (T.leavesL ts).length
  | [], _ => by simp [T.dataL, T.leavesL, Wr.sizeL]
  | t :: r, h => by
    rw [T.OkL] at h
    have q1 := T.size t h.1
    have q2 := T.sizeL r h.2
    rw [T.dataL, T.leavesL, Wr.sizeL, List.length_append, List.length_cons]
    omega
end
theorem six_good : ∀ z ∈ sixN, goodD (.str z) = true := by
  intro z hz
  rw [goodD]
  revert z
  decide +kernel
mutual
theorem T.good : ∀ t : T, (∀ x ∈ t.leaves, LeafOk x) → goodD t.data = true
  | .leaf n p w, h => by
    have q := (h (n, p, w) (by simp [T.leaves])).1
    have g := six_good n q
    rw [goodD] at g
    simp only [T.data, goodD, Wr.goodL, g, Bool.and_true]
  | .node ts, h => by
    rw [T.data, goodD]
    exact T.goodL ts (by rw [T.leaves] at h; exact h)
theorem T.goodL : ∀ ts : List T, (∀ x ∈ T.leavesL ts, LeafOk x) → Wr.goodL (T.dataL ts) = true
  | [], _ => by simp [T.dataL, Wr.goodL]
  | t :: r, h => by
    rw [T.leavesL] at h
    rw [T.dataL, Wr.goodL, T.good t fun x hx => h x (List.mem_append_left _ hx), T.goodL r fun x hx => h x (List.mem_append_right _ hx)]
    rfl
end
theorem rig_gd {K : PySem.W.Frag} {H : Hp} {v : V} {t : T} (h : RigOk 6 t) (d : Dp K H v t.data) : GdN 29 K H v := by
  have := T.size t h.ok
  have := h.len
  exact ⟨t.data, d, T.good t h.leaf, by omega⟩
theorem rig_items {K : PySem.W.Frag} {H : Hp} {v : V} {t : T} (h : RigOk 6 t) (d : Dp K H v t.data) : ∃ a us, v = .ref a ∧ SqT K H a us ∧ GdL 28 K H us := by
  have s1 := T.size t h.ok
  have s2 := h.len
  have g := T.good t h.leaf
  cases t with
  | leaf n p w =>
    rw [T.data] at *
    cases d with
    | @tup a us _ h1 r => exact ⟨a, us, rfl, h1, _, r, by rw [goodD] at g; exact g, by rw [sizeD] at s1; omega⟩
  | node ts =>
    rw [T.data] at *
    cases d with
    | @tup a us _ h1 r => exact ⟨a, us, rfl, h1, _, r, by rw [goodD] at g; exact g, by rw [sizeD] at s1; omega⟩
end Wr

set_option Elab.async false
set_option linter.all false
set_option maxRecDepth 100000
set_option maxHeartbeats 4000000
namespace Wr
open PySem PySem.Spec PyProof.Rows L2
theorem abc_ok : ∀ c ∈ ("abcdefg" : Str).cps.toList, goodD (.str ⟨#[c]⟩) = true := by
  intro c hc
  rw [goodD]
  revert c
  decide +kernel
section
variable {P : Program} {w : World} {K : PySem.W.Frag} {mg : Str → Option Value} {base : Heap}
def spLaw (K : PySem.W.Frag) (T : Addr) : Sp := fun vs H Q _ => ∃ (a : Addr) (ns : List Int), vs = [.ref a] ∧ SqL K H a (ns.map V.int) ∧ ns.length ≤ 63 ∧ GxR.TabG H T ∧ ∀ H', Q (.bl true) H'
/-- the slots: what is known of them between the parts -/
def sLaw (a : Addr) (row vals odd : Option V) (rest : List (Option V)) : L2.St := some (.ref a) :: row :: vals :: odd :: rest
theorem ok_law (G : Gx K mg) (TB : GxR.TabB base mg G.c_is_name G.p_is_name) : FnOk P w K mg base CX0 203 G.f_law G.fd_law ["script"] (spLaw K G.p_is_name) := by
  have G__law_digits : FnOk P w K mg base CX0 202 G.f__law_digits G.fd__law_digits _ (spDigits K) := ok_digits G 200
  have G__law_rig : FnOk P w K mg base CX0 202 G.f__law_rig G.fd__law_rig _ (spRig K) := ok_rig G 200
  have G__law_mutated : FnOk P w K mg base CX0 202 G.f__law_mutated G.fd__law_mutated _ (spMut K) := ok_mut G 130
  have G__law_any_value : FnOk P w K mg base CX0 202 G.f__law_any_value G.fd__law_any_value _ (framed (spAny K 5)) := FnOk.frame (ok_any G 196 5)
  have G__law_same_bool : FnOk P w K mg base CX0 202 G.f__law_same_bool G.fd__law_same_bool _ (spSame K) := ok_same G 201
  have G_is_rig : FnOk P w K mg base CX0 202 G.f_is_rig G.fd_is_rig _ (spIsRig K G.p_is_name) := ok_isrig G TB 198
  have G__law_is_rig : FnOk P w K mg base CX0 202 G.f__law_is_rig G.fd__law_is_rig _ (spLawRig K) := ok_lawrig G 0
  refine G.F_law.ok sc_law (fun vs H Q E h => ?_) (fun cdv A outer s H vs Q E hr h => ?_)
  · obtain ⟨a, ns, rfl, _⟩ := h
    rfl
  obtain ⟨a, ns, rfl, hS, h63, hT, q⟩ := h
  refine ⟨_, (Evl.pss_cut (ps_set (i := 1) sc_law.nd rfl (.inl rfl) (pe_callTy call_tuple_of (by rfl) G.tuple (by decide +kernel) (pa_cons (pe_lc (own := [("char", 11)]) (g := gName 11) (tt := tYes) (by rfl) sc_law.nd (pi_str pe_str) (blkOk_by (own := [("char", 11)]) (N := N_law) (sc := defScope s_law) (by decide +kernel)) (fun _ _ _ _ _ => (pg_name (i := 11) sc_law.nd rfl (.inl rfl) (.inr rfl))) (fun _ _ _ _ _ => pts_nil) (fun _ _ _ _ _ => (pe_tup (pa_cons (pv 11) (pa_cons pe_int (pa_cons pe_int pa_nil)))))) pa_nil)))
    (Evl.pss_cut (ps_set (i := 2) sc_law.nd rfl (.inl rfl) (pe_lst (pa_cons (pv 1) (pa_cons (pe_slice sl_tup (pv 1) po_none (po_some pe_int)) (pa_cons (pe_slice sl_tup (pv 1) po_none (po_some pe_int)) (pa_cons (pe_slice sl_tup (pv 1) po_none (po_some pe_int)) (pa_cons (pe_ix ix_tup (pv 1) pe_int (fun _ _ => rfl)) (pa_cons (pe_tup (pa_cons (pe_ix ix_tup (pv 1) pe_int (fun _ _ => rfl)) (pa_cons (pe_slice sl_tup (pv 1) (po_some pe_int) (po_some pe_int)) pa_nil))) (pa_cons (pe_tup (pa_cons (pe_slice sl_tup (pv 1) po_none (po_some pe_int)) (pa_cons (pe_slice sl_tup (pv 1) po_none (po_some pe_int)) pa_nil))) (pa_cons (pe_tup (pa_cons (pe_slice sl_tup (pv 1) po_none (po_some pe_int)) (pa_cons (pe_slice sl_tup (pv 1) (po_some pe_int) (po_some pe_int)) pa_nil))) pa_nil))))))))))
    (pss_cons (ps_set (i := 3) sc_law.nd rfl (.inl rfl) (pe_lst (pa_cons (pe_tup (pa_cons pe_str (pa_cons pe_int (pa_cons pe_int pa_nil)))) (pa_cons (pe_tup (pa_cons pe_str (pa_cons pe_int (pa_cons pe_int pa_nil)))) (pa_cons (pe_tup (pa_cons pe_str (pa_cons pe_int (pa_cons pe_int pa_nil)))) (pa_cons (pe_tup (pa_cons pe_str (pa_cons pe_int (pa_cons pe_int pa_nil)))) (pa_cons (pe_tup (pa_cons pe_str (pa_cons pe_int (pa_cons (pe_op op_sub pe_int pe_int) pa_nil)))) (pa_cons (pe_tup (pa_cons pe_str (pa_cons pe_int (pa_cons pe_int pa_nil)))) (pa_cons (pe_tup (pa_cons pe_str (pa_cons pe_int (pa_cons pe_int pa_nil)))) pa_nil)))))))))
    (Evl.pss_cut (ps_for PassesOwn.never rfl (pi_list (pe_op op_cat (pv 3) (pe_lst (pa_cons (pe_tup (pa_cons pe_str (pa_cons pe_int (pa_cons pe_int pa_nil)))) (pa_cons (pe_tup (pa_cons pe_str (pa_cons pe_bl (pa_cons pe_int pa_nil)))) (pa_cons (pe_tup (pa_cons pe_str (pa_cons pe_int (pa_cons pe_bl pa_nil)))) (pa_cons (pe_lst (pa_cons pe_str (pa_cons pe_int (pa_cons pe_int pa_nil)))) (pa_cons (pe_tup (pa_cons pe_str (pa_cons pe_int pa_nil))) (pa_cons (pe_tup (pa_cons pe_str (pa_cons pe_int (pa_cons pe_int (pa_cons pe_int pa_nil))))) pa_nil))))))))) (pg_name (i := 4) sc_law.nd rfl (.inl rfl))
      (pss_one (ps_set (i := 2) sc_law.nd rfl (.inl rfl) (pe_op op_cat (pv 2) (pe_lst (pa_cons (pv 4) (pa_cons (pe_tup (pa_cons (pv 4) (pa_cons (pe_tup (pa_cons pe_str (pa_cons pe_int (pa_cons pe_int pa_nil)))) pa_nil))) (pa_cons (pe_tup (pa_cons (pe_tup (pa_cons (pv 4) pa_nil)) (pa_cons (pe_tup (pa_cons pe_str (pa_cons pe_int (pa_cons pe_int pa_nil)))) pa_nil))) pa_nil))))))))
    (Evl.pss_cut (ps_for PassesOwn.never rfl (pi_tup (pe_tup (pa_cons pe_int (pa_cons pe_int (pa_cons pe_int pa_nil))))) (pg_name (i := 5) sc_law.nd rfl (.inl rfl))
      (pss_cons (ps_set (i := 6) sc_law.nd rfl (.inl rfl) (pe_call G__law_digits hr (by rfl) G.m__law_digits G.F__law_digits.kp G.b__law_digits .nil pass0 (pa_cons (pv 0) (pa_cons (pv 5) (pa_cons pe_int (pa_cons pe_int pa_nil))))))
    (pss_cons (ps_set (i := 7) sc_law.nd rfl (.inl rfl) (pe_call G__law_rig hr (by rfl) G.m__law_rig G.F__law_rig.kp G.b__law_rig .nil pass0 (pa_cons (pv 6) (pa_cons pe_int pa_nil))))
    (Evl.pss_cut (ps_set (i := 2) sc_law.nd rfl (.inl rfl) (pe_op op_cat (pv 2) (pe_lst (pa_cons (pv 7) (pa_cons (pe_callTy call_list_of (by rfl) G.list (by decide +kernel) (pa_cons (pv 7) pa_nil)) (pa_cons (pe_tup (pa_cons (pv 7) (pa_cons (pv 7) pa_nil))) (pa_cons (pe_tup (pa_cons (pv 7) (pa_cons (pe_tup (pa_cons pe_str (pa_cons pe_int (pa_cons pe_int pa_nil)))) pa_nil))) (pa_cons (pe_tup (pa_cons (pv 7) pa_nil)) pa_nil))))))))
    (pss_cons (ps_expr (pe_bm PySem.F.plainAttrs_list PySem.F.slot_list_append PySem.F.type_list_append mt_append (pv 2) (pa_cons (pe_tup (pa_cons (pe_tup (pa_cons pe_str (pa_cons pe_int (pa_cons pe_int pa_nil)))) (pa_cons (pe_tup (pa_cons pe_str (pa_cons pe_int (pa_cons pe_int pa_nil)))) (pa_cons (pv 7) pa_nil)))) pa_nil)))
    (pss_one (ps_for PassesOwn.never rfl (pi_range1 (by rfl) G.range (pa_cons pe_int pa_nil)) (pg_name (i := 8) sc_law.nd rfl (.inl rfl))
      (pss_cons (ps_set (i := 1) sc_law.nd rfl (.inl rfl) (pe_slice sl_list (pv 6) (po_some (pe_op op_mul pe_int (pv 8))) (po_some (pe_op op_add (pe_op op_mul pe_int (pv 8)) pe_int))))
    (pss_cons (ps_set (i := 9) sc_law.nd rfl (.inl rfl) (pe_call G__law_mutated hr (by rfl) G.m__law_mutated G.F__law_mutated.kp G.b__law_mutated .nil pass0 (pa_cons (pv 7) (pa_cons (pv 1) pa_nil))))
    (pss_cons (ps_set (i := 2) sc_law.nd rfl (.inl rfl) (pe_op op_cat (pv 2) (pe_lst (pa_cons (pv 9) (pa_cons (pe_call G__law_mutated hr (by rfl) G.m__law_mutated G.F__law_mutated.kp G.b__law_mutated .nil pass0 (pa_cons (pv 9) (pa_cons (pe_revS (pv 1)) pa_nil))) pa_nil)))))
    (pss_one (ps_expr (pe_bm PySem.F.plainAttrs_list PySem.F.slot_list_append PySem.F.type_list_append mt_append (pv 2) (pa_cons (pe_call G__law_any_value hr (by rfl) G.m__law_any_value G.F__law_any_value.kp G.b__law_any_value .nil pass0 (pa_cons (pe_op op_cat (pe_slice sl_list (pv 6) (po_some (pv 8)) po_none) (pe_slice sl_list (pv 6) po_none (po_some (pv 8)))) (pa_cons pe_int pa_nil))) pa_nil))))))))))))))
    (pss_cons (ps_for PassesOwn.never rfl (pi_list (pv 2)) (pg_name (i := 10) sc_law.nd rfl (.inl rfl))
      (pss_one (ps_if (pt_not (pt_val (pe_call G__law_same_bool hr (by rfl) G.m__law_same_bool G.F__law_same_bool.kp G.b__law_same_bool .nil pass0 (pa_cons (pe_call G_is_rig hr (by rfl) G.m_is_rig G.F_is_rig.kp G.b_is_rig .nil pass0 (pa_cons (pv 10) pa_nil)) (pa_cons (pe_call G__law_is_rig hr (by rfl) G.m__law_is_rig G.F__law_is_rig.kp G.b__law_is_rig .nil pass0 (pa_cons (pv 10) pa_nil)) pa_nil))))) (pss_one (ps_ret pe_bl)) pss_nil)))
    (pss_one (ps_ret pe_bl)))))))), ?_⟩
  -- row
  refine ⟨fun σ' H' => ∃ (r : Addr) (ws : List V), σ' = [some (.ref a), some (.ref r), none, none, none, none, none, none, none, none, none, none] ∧ Le H H' ∧ H' r = some (.tup ws) ∧ ws.length = 7 ∧ ∀ w ∈ ws, GdN 4 K H' w, ?_, ?_⟩
  · refine ⟨_, rfl, fun D hD => ?_⟩
    refine lc_it walk_str (fun i H' => ∃ ws : List V, Le H H' ∧ H' D = some (.lst ws) ∧ ws.length = i ∧ ∀ u ∈ ws, ∃ t c, u = .ref t ∧ H' t = some (.tup [.str ⟨#[c]⟩, .int 1, .int 0]) ∧ goodD (.str ⟨#[c]⟩) = true) ⟨[], Le.new hD, upd_same, rfl, fun u hu => by cases hu⟩ (fun _ _ _ _ => trivial) ?_ ?_
    · rintro i x H1 H2 hi ⟨ws, l1, kD, wl, wA⟩ ⟨rfl, c, hc, rfl⟩
      have hcm : c ∈ ("abcdefg" : Str).cps.toList := List.mem_of_getElem? (by rw [Array.getElem?_toList]; exact hc)
      have hi7 : i < 7 := hi
      refine ⟨rfl, _, rfl, (by decide : 3 ≤ sizeLine), fun t ht => ?_⟩
      have l2 := Le.new (o := .tup [.str ⟨#[c]⟩, .int 1, .int 0]) ht
      refine ⟨ws, l2.lst kD, szlt (by omega), ws ++ [.ref t], (l1.trans l2).mut hD, upd_same, by rw [List.length_append, wl]; rfl, fun u hu => ?_⟩
      rcases List.mem_append.mp hu with z | z
      · obtain ⟨t1, c1, e1, e2, e3⟩ := wA u z
        have e4 := l2.tup e2
        exact ⟨t1, c1, e1, (upd_ne (ne_of e4 (l2.lst kD) (by intro y; cases y))).trans e4, e3⟩
      · have nt : t ≠ D := fun y => by rw [y, kD] at ht; cases ht
        exact ⟨t, c, List.mem_singleton.mp z, (upd_ne nt).trans upd_same, abc_ok c hcm⟩
    · rintro H1 ⟨ws, l1, kD, wl, wA⟩
      refine ⟨D, ws, rfl, .inl ⟨sql kD, fun r hr => ⟨r, ws, rfl, l1.trans (Le.new hr), upd_same, wl, fun u hu => ?_⟩⟩⟩
      obtain ⟨t1, c1, rfl, e2, e3⟩ := wA u hu
      exact gd3 (sqt ((Le.new hr).tup e2)) e3 (gd_int _) (gd_int _)
  rintro σ' H' ⟨r, ws, rfl, l1, kr, wl, wA⟩
  -- values
  refine ⟨fun σ2 H2 => ∃ p, σ2 = [some (.ref a), some (.ref r), some (.ref p), none, none, none, none, none, none, none, none, none] ∧ Le H H2 ∧ VL K p H2 8, ?_, ?_⟩
  · obtain ⟨w0, hw0⟩ : ∃ w0, ws[0]? = some w0 := ⟨ws[0], List.getElem?_eq_getElem (by omega)⟩
    have w0A := wA w0 (List.mem_of_getElem? hw0)
    have cutA : ∀ {Hx : Hp} {p : Addr} {lo hi : Option Int}, Le H' Hx → Hx p = none → GdN 29 K (upd Hx p (.tup (cutV ws lo hi))) (.ref p) := by
      intro Hx p lo hi lx hp
      have ln := lx.trans (Le.new (o := .tup (cutV ws lo hi)) hp)
      have q1 := gd_tup (K := K) (sqt upd_same) (gdl_all (n := 4) (K := K) (H := upd Hx p (.tup (cutV ws lo hi))) (vs := cutV ws lo hi) fun u hu => ln.gd (wA u (mem_cut hu)))
      have z := cutV_length ws lo hi
      exact q1.up (by omega)
    have nw : ∀ {lo : Option Int} {k : Int}, k = 6 ∨ k = 1 ∨ k = 2 ∨ k = 3 → ¬ (HT.sIx ws.length 0 lo = 0 ∧ HT.sIx ws.length ws.length (some k) = ws.length) := by
      intro lo k hk z
      have z2 := z.2
      rw [wl] at z2
      rcases hk with rfl | rfl | rfl | rfl <;> exact absurd z2 (by decide)
    refine ⟨_, rfl, _, rfl, 6, rfl, r, ws, rfl, sqt kr, nw (.inl rfl), fun p1 hp1 => ?_⟩
    have b1 := Le.new (o := .tup (cutV ws none (some 6))) hp1
    have g1 := cutA (lo := none) (hi := some 6) (Le.refl _) hp1
    generalize upd H' p1 (.tup (cutV ws none (some 6))) = H1 at b1 g1
    refine ⟨_, rfl, 1, rfl, r, ws, rfl, sqt (b1.tup kr), nw (.inr (.inl rfl)), fun p2 hp2 => ?_⟩
    have b2 := b1.trans (Le.new (o := .tup (cutV ws none (some 1))) hp2)
    have g2 := cutA (lo := none) (hi := some 1) b1 hp2
    have g1 := (Le.new (o := .tup (cutV ws none (some 1))) hp2).gd g1
    generalize upd H1 p2 (.tup (cutV ws none (some 1))) = H2 at b2 g1 g2
    refine ⟨_, rfl, 2, rfl, r, ws, rfl, sqt (b2.tup kr), nw (.inr (.inr (.inl rfl))), fun p3 hp3 => ?_⟩
    have c3 := Le.new (o := .tup (cutV ws none (some 2))) hp3
    have b3 := b2.trans c3
    have g3 := cutA (lo := none) (hi := some 2) b2 hp3
    have g1 := c3.gd g1
    have g2 := c3.gd g2
    generalize upd H2 p3 (.tup (cutV ws none (some 2))) = H3 at b3 g1 g2 g3
    refine ⟨_, rfl, r, _, _, _, rfl, rfl, sqt (b3.tup kr), atI_nat (j := 0) hw0, ?_⟩
    -- (row[0], row[1:3])
    refine ⟨_, rfl, r, _, _, _, rfl, rfl, sqt (b3.tup kr), atI_nat (j := 0) hw0, _, rfl, 1, rfl, 3, rfl, r, ws, rfl, sqt (b3.tup kr), nw (.inr (.inr (.inr rfl))), fun p4 hp4 => ⟨(by decide : 2 ≤ sizeLine), fun p5 hp5 => ?_⟩⟩
    have c4 := Le.new (o := .tup (cutV ws (some 1) (some 3))) hp4
    have g4 := cutA (lo := some 1) (hi := some 3) b3 hp4
    have c5 := Le.new (o := .tup [w0, .ref p4]) hp5
    have b5 := b3.trans (c4.trans c5)
    have g5 := gd_tup (K := K) (sqt (H := upd (upd H3 p4 (.tup (cutV ws (some 1) (some 3)))) p5 (.tup [w0, .ref p4])) upd_same) (gdl_cons (b5.gd w0A) (gdl_cons (c5.gd g4) gdl_nil))
    have g1 := (c4.trans c5).gd g1
    have g2 := (c4.trans c5).gd g2
    have g3 := (c4.trans c5).gd g3
    generalize upd (upd H3 p4 (.tup (cutV ws (some 1) (some 3)))) p5 (.tup [w0, .ref p4]) = H5 at b5 g1 g2 g3 g5
    -- (row[:2], row[:2])
    refine ⟨_, rfl, 2, rfl, r, ws, rfl, sqt (b5.tup kr), nw (.inr (.inr (.inl rfl))), fun p6 hp6 => ?_⟩
    have c6 := Le.new (o := .tup (cutV ws none (some 2))) hp6
    have g6 := cutA (lo := none) (hi := some 2) b5 hp6
    have b6 := b5.trans c6
    refine ⟨_, rfl, 2, rfl, r, ws, rfl, sqt (b6.tup kr), nw (.inr (.inr (.inl rfl))), fun p7 hp7 => ⟨(by decide : 2 ≤ sizeLine), fun p8 hp8 => ?_⟩⟩
    have c7 := Le.new (o := .tup (cutV ws none (some 2))) hp7
    have g7 := cutA (lo := none) (hi := some 2) b6 hp7
    have c8 := Le.new (o := .tup [.ref p6, .ref p7]) hp8
    have c68 := c6.trans (c7.trans c8)
    have b8 := b5.trans c68
    have g8 := gd_tup (K := K) (sqt (H := upd (upd (upd H5 p6 (.tup (cutV ws none (some 2)))) p7 (.tup (cutV ws none (some 2)))) p8 (.tup [.ref p6, .ref p7])) upd_same) (gdl_cons ((c7.trans c8).gd g6) (gdl_cons (c8.gd g7) gdl_nil))
    have g1 := c68.gd g1
    have g2 := c68.gd g2
    have g3 := c68.gd g3
    have g5 := c68.gd g5
    generalize upd (upd (upd H5 p6 (.tup (cutV ws none (some 2)))) p7 (.tup (cutV ws none (some 2)))) p8 (.tup [.ref p6, .ref p7]) = H8 at b8 g1 g2 g3 g5 g8
    -- (row[:2], row[1:3])
    refine ⟨_, rfl, 2, rfl, r, ws, rfl, sqt (b8.tup kr), nw (.inr (.inr (.inl rfl))), fun p9 hp9 => ?_⟩
    have c9 := Le.new (o := .tup (cutV ws none (some 2))) hp9
    have g9 := cutA (lo := none) (hi := some 2) b8 hp9
    have b9 := b8.trans c9
    refine ⟨_, rfl, 1, rfl, 3, rfl, r, ws, rfl, sqt (b9.tup kr), nw (.inr (.inr (.inr rfl))), fun pa hpa => ⟨(by decide : 2 ≤ sizeLine), fun pb hpb => ?_⟩⟩
    have ca := Le.new (o := .tup (cutV ws (some 1) (some 3))) hpa
    have ga := cutA (lo := some 1) (hi := some 3) b9 hpa
    have cb := Le.new (o := .tup [.ref p9, .ref pa]) hpb
    have c9b := c9.trans (ca.trans cb)
    have bb := b8.trans c9b
    have gb := gd_tup (K := K) (sqt (H := upd (upd (upd H8 p9 (.tup (cutV ws none (some 2)))) pa (.tup (cutV ws (some 1) (some 3)))) pb (.tup [.ref p9, .ref pa])) upd_same) (gdl_cons ((ca.trans cb).gd g9) (gdl_cons (cb.gd ga) gdl_nil))
    have g1 := c9b.gd g1
    have g2 := c9b.gd g2
    have g3 := c9b.gd g3
    have g5 := c9b.gd g5
    have g8 := c9b.gd g8
    generalize upd (upd (upd H8 p9 (.tup (cutV ws none (some 2)))) pa (.tup (cutV ws (some 1) (some 3)))) pb (.tup [.ref p9, .ref pa]) = Hb at bb g1 g2 g3 g5 g8 gb
    have gr := gd_tup (K := K) (sqt (bb.tup kr)) (gdl_all (n := 4) fun u hu => bb.gd (wA u hu))
    rw [wl] at gr
    refine ⟨(by decide : 8 ≤ sizeLine), fun p hp => ⟨p, rfl, (l1.trans bb).trans (Le.new hp), ?_⟩⟩
    refine ⟨_, upd_same, Nat.le_refl _, fun u hu => ?_⟩
    rw [aside_upd, aside_none hp]
    simp only [List.mem_cons, List.not_mem_nil, or_false] at hu
    rcases hu with rfl | rfl | rfl | rfl | rfl | rfl | rfl | rfl
    · exact gr.up (by decide)
    · exact g1.up (by decide)
    · exact g2.up (by decide)
    · exact g3.up (by decide)
    · exact (bb.gd w0A).up (by decide)
    · exact g5.up (by decide)
    · exact g8.up (by decide)
    · exact gb.up (by decide)
  rintro σ' H2 ⟨p, rfl, l2, vl⟩
  -- odd: seven strands
  have gA : goodD (.str "a") = true := by rw [goodD]; decide +kernel
  have gB : goodD (.str "b") = true := by rw [goodD]; decide +kernel
  have gE : goodD (.str "") = true := by rw [goodD]; decide +kernel
  have gL : goodD (.str "abcdefghi") = true := by rw [goodD]; decide +kernel
  have gC : goodD (.str "A") = true := by rw [goodD]; decide +kernel
  have gZ : goodD (.str "zed") = true := by rw [goodD]; decide +kernel
  have gY : goodD (.str "yak") = true := by rw [goodD]; decide +kernel
  refine ⟨(by decide : 3 ≤ sizeLine), fun o1 ho1 => ⟨(by decide : 3 ≤ sizeLine), fun o2 ho2 => ⟨(by decide : 3 ≤ sizeLine), fun o3 ho3 => ⟨(by decide : 3 ≤ sizeLine), fun o4 ho4 => ⟨_, _, rfl, rfl, (by decide : 3 ≤ sizeLine), fun o5 ho5 => ⟨(by decide : 3 ≤ sizeLine), fun o6 ho6 => ⟨(by decide : 3 ≤ sizeLine), fun o7 ho7 => ⟨(by decide : 7 ≤ sizeLine), fun od hod => ?_⟩⟩⟩⟩⟩⟩⟩⟩
  have m1 := Le.new (o := .tup [.str "a", .int 0, .int 0]) ho1
  have n1 : GdN 4 K (upd H2 o1 (.tup [.str "a", .int 0, .int 0])) (.ref o1) := gd3 (sqt upd_same) gA (gd_int _) (gd_int _)
  generalize upd H2 o1 (.tup [.str "a", .int 0, .int 0]) = H3 at *
  have m2 := Le.new (o := .tup [.str "a", .int 100, .int 0]) ho2
  have n2 : GdN 4 K (upd H3 o2 (.tup [.str "a", .int 100, .int 0])) (.ref o2) := gd3 (sqt upd_same) gA (gd_int _) (gd_int _)
  generalize upd H3 o2 (.tup [.str "a", .int 100, .int 0]) = H4 at *
  have m3 := Le.new (o := .tup [.str "a", .int 99, .int 20]) ho3
  have n3 : GdN 4 K (upd H4 o3 (.tup [.str "a", .int 99, .int 20])) (.ref o3) := gd3 (sqt upd_same) gA (gd_int _) (gd_int _)
  generalize upd H4 o3 (.tup [.str "a", .int 99, .int 20]) = H5 at *
  have m4 := Le.new (o := .tup [.str "a", .int 9, .int 21]) ho4
  have n4 : GdN 4 K (upd H5 o4 (.tup [.str "a", .int 9, .int 21])) (.ref o4) := gd3 (sqt upd_same) gA (gd_int _) (gd_int _)
  generalize upd H5 o4 (.tup [.str "a", .int 9, .int 21]) = H6 at *
  have m5 := Le.new (o := .tup [.str "a", .int 9, .int (0 - 1)]) ho5
  have n5 : GdN 4 K (upd H6 o5 (.tup [.str "a", .int 9, .int (0 - 1)])) (.ref o5) := gd3 (sqt upd_same) gA (gd_int _) (gd_int _)
  generalize upd H6 o5 (.tup [.str "a", .int 9, .int (0 - 1)]) = H7 at *
  have m6 := Le.new (o := .tup [.str "", .int 1, .int 0]) ho6
  have n6 : GdN 4 K (upd H7 o6 (.tup [.str "", .int 1, .int 0])) (.ref o6) := gd3 (sqt upd_same) gE (gd_int _) (gd_int _)
  generalize upd H7 o6 (.tup [.str "", .int 1, .int 0]) = H8 at *
  have m7 := Le.new (o := .tup [.str "abcdefghi", .int 1, .int 0]) ho7
  have n7 : GdN 4 K (upd H8 o7 (.tup [.str "abcdefghi", .int 1, .int 0])) (.ref o7) := gd3 (sqt upd_same) gL (gd_int _) (gd_int _)
  generalize upd H8 o7 (.tup [.str "abcdefghi", .int 1, .int 0]) = H9 at *
  have m8 := Le.new (o := .lst [.ref o1, .ref o2, .ref o3, .ref o4, .ref o5, .ref o6, .ref o7]) hod
  have m28 := m2.trans (m3.trans (m4.trans (m5.trans (m6.trans (m7.trans m8)))))
  have kod : upd H9 od (.lst [.ref o1, .ref o2, .ref o3, .ref o4, .ref o5, .ref o6, .ref o7]) od = some (.lst [.ref o1, .ref o2, .ref o3, .ref o4, .ref o5, .ref o6, .ref o7]) := upd_same
  have oddA : ∀ u ∈ [V.ref o1, .ref o2, .ref o3, .ref o4, .ref o5, .ref o6, .ref o7], GdN 5 K (upd H9 od (.lst [.ref o1, .ref o2, .ref o3, .ref o4, .ref o5, .ref o6, .ref o7])) u := by
    intro u hu
    simp only [List.mem_cons, List.not_mem_nil, or_false] at hu
    rcases hu with rfl | rfl | rfl | rfl | rfl | rfl | rfl
    · exact (m28.gd n1).up (by decide)
    · exact ((m3.trans (m4.trans (m5.trans (m6.trans (m7.trans m8))))).gd n2).up (by decide)
    · exact ((m4.trans (m5.trans (m6.trans (m7.trans m8)))).gd n3).up (by decide)
    · exact ((m5.trans (m6.trans (m7.trans m8))).gd n4).up (by decide)
    · exact ((m6.trans (m7.trans m8)).gd n5).up (by decide)
    · exact ((m7.trans m8).gd n6).up (by decide)
    · exact (m8.gd n7).up (by decide)
  have lA := l2.trans (m1.trans m28)
  have vl := vl.le (m1.trans m28)
  clear m1 m2 m3 m4 m5 m6 m7 m8 m28 n1 n2 n3 n4 n5 n6 n7
  generalize upd H9 od (.lst [.ref o1, .ref o2, .ref o3, .ref o4, .ref o5, .ref o6, .ref o7]) = HA at *
  generalize hodd : [V.ref o1, .ref o2, .ref o3, .ref o4, .ref o5, .ref o6, .ref o7] = oddL at *
  have oddl : oddL.length = 7 := by rw [← hodd]; rfl
  -- for strand in odd + [..]
  refine ⟨fun σ3 H3 => ∃ (p : Addr) (y3 y4 : Option V), σ3 = [some (.ref a), some (.ref r), some (.ref p), y3, y4, none, none, none, none, none, none, none] ∧ Le H H3 ∧ VL K p H3 47, ?_, ?_⟩
  · refine ⟨_, rfl, (by decide : 3 ≤ sizeLine), fun q1 hq1 => ⟨(by decide : 3 ≤ sizeLine), fun q2 hq2 => ⟨(by decide : 3 ≤ sizeLine), fun q3 hq3 => ⟨(by decide : 3 ≤ sizeLine), fun q4 hq4 => ⟨(by decide : 2 ≤ sizeLine), fun q5 hq5 => ⟨(by decide : 4 ≤ sizeLine), fun q6 hq6 => ⟨(by decide : 6 ≤ sizeLine), fun q7 hq7 => ?_⟩⟩⟩⟩⟩⟩⟩
    have m1 := Le.new (o := .tup [.str "A", .int 1, .int 0]) hq1
    have n1 : GdN 4 K (upd HA q1 (.tup [.str "A", .int 1, .int 0])) (.ref q1) := gd3 (sqt upd_same) gC (gd_int _) (gd_int _)
    generalize upd HA q1 (.tup [.str "A", .int 1, .int 0]) = H3 at *
    have m2 := Le.new (o := .tup [.str "a", .bl true, .int 0]) hq2
    have n2 : GdN 4 K (upd H3 q2 (.tup [.str "a", .bl true, .int 0])) (.ref q2) := gd3 (sqt upd_same) gA (gd_bl _) (gd_int _)
    generalize upd H3 q2 (.tup [.str "a", .bl true, .int 0]) = H4 at *
    have m3 := Le.new (o := .tup [.str "a", .int 1, .bl false]) hq3
    have n3 : GdN 4 K (upd H4 q3 (.tup [.str "a", .int 1, .bl false])) (.ref q3) := gd3 (sqt upd_same) gA (gd_int _) (gd_bl _)
    generalize upd H4 q3 (.tup [.str "a", .int 1, .bl false]) = H5 at *
    have m4 := Le.new (o := .lst [.str "a", .int 1, .int 0]) hq4
    have n4 : GdN 4 K (upd H5 q4 (.lst [.str "a", .int 1, .int 0])) (.ref q4) := gd_lst (sql upd_same) (gdl_cons (gd_str _ gA) (gdl_cons (gd_int _) (gdl_cons (gd_int _) gdl_nil)))
    generalize upd H5 q4 (.lst [.str "a", .int 1, .int 0]) = H6 at *
    have m5 := Le.new (o := .tup [.str "a", .int 1]) hq5
    have n5 : GdN 3 K (upd H6 q5 (.tup [.str "a", .int 1])) (.ref q5) := gd_tup (sqt upd_same) (gdl_cons (gd_str _ gA) (gdl_cons (gd_int _) gdl_nil))
    generalize upd H6 q5 (.tup [.str "a", .int 1]) = H7 at *
    have m6 := Le.new (o := .tup [.str "a", .int 1, .int 0, .int 0]) hq6
    have n6 : GdN 5 K (upd H7 q6 (.tup [.str "a", .int 1, .int 0, .int 0])) (.ref q6) := gd_tup (sqt upd_same) (gdl_cons (gd_str _ gA) (gdl_cons (gd_int _) (gdl_cons (gd_int _) (gdl_cons (gd_int _) gdl_nil))))
    generalize upd H7 q6 (.tup [.str "a", .int 1, .int 0, .int 0]) = H8 at *
    have m7 := Le.new (o := .lst [.ref q1, .ref q2, .ref q3, .ref q4, .ref q5, .ref q6]) hq7
    have m17 := m1.trans (m2.trans (m3.trans (m4.trans (m5.trans (m6.trans m7)))))
    have newA : ∀ u ∈ [V.ref q1, .ref q2, .ref q3, .ref q4, .ref q5, .ref q6], GdN 5 K (upd H8 q7 (.lst [.ref q1, .ref q2, .ref q3, .ref q4, .ref q5, .ref q6])) u := by
      intro u hu
      simp only [List.mem_cons, List.not_mem_nil, or_false] at hu
      rcases hu with rfl | rfl | rfl | rfl | rfl | rfl
      · exact ((m2.trans (m3.trans (m4.trans (m5.trans (m6.trans m7))))).gd n1).up (by decide)
      · exact ((m3.trans (m4.trans (m5.trans (m6.trans m7)))).gd n2).up (by decide)
      · exact ((m4.trans (m5.trans (m6.trans m7))).gd n3).up (by decide)
      · exact ((m5.trans (m6.trans m7)).gd n4).up (by decide)
      · exact ((m6.trans m7).gd n5).up (by decide)
      · exact (m7.gd n6).up (by decide)
    refine ⟨od, q7, _, _, rfl, rfl, m17.lst kod, upd_same, sz (by rw [oddl]; simp), fun qq hqq => ?_⟩
    have mq := Le.new (o := .lst (oddL ++ [.ref q1, .ref q2, .ref q3, .ref q4, .ref q5, .ref q6])) hqq
    have allA : ∀ u ∈ oddL ++ [V.ref q1, .ref q2, .ref q3, .ref q4, .ref q5, .ref q6], GdN 5 K (upd (upd H8 q7 (.lst [.ref q1, .ref q2, .ref q3, .ref q4, .ref q5, .ref q6])) qq (.lst (oddL ++ [.ref q1, .ref q2, .ref q3, .ref q4, .ref q5, .ref q6]))) u := fun u hu => by
      rcases List.mem_append.mp hu with z | z
      · exact (m17.trans mq).gd (oddA u z)
      · exact mq.gd (newA u z)
    have kqq : upd (upd H8 q7 (.lst [.ref q1, .ref q2, .ref q3, .ref q4, .ref q5, .ref q6])) qq (.lst (oddL ++ [.ref q1, .ref q2, .ref q3, .ref q4, .ref q5, .ref q6])) qq = some (.lst (oddL ++ [.ref q1, .ref q2, .ref q3, .ref q4, .ref q5, .ref q6])) := upd_same
    have lB := lA.trans (m17.trans mq)
    have vlB := vl.le (m17.trans mq)
    have sl : (oddL ++ [V.ref q1, .ref q2, .ref q3, .ref q4, .ref q5, .ref q6]).length = 13 := by rw [List.length_append, oddl]; rfl
    clear m1 m2 m3 m4 m5 m6 m7 m17 n1 n2 n3 n4 n5 n6 newA mq
    generalize upd (upd H8 q7 (.lst [.ref q1, .ref q2, .ref q3, .ref q4, .ref q5, .ref q6])) qq (.lst (oddL ++ [.ref q1, .ref q2, .ref q3, .ref q4, .ref q5, .ref q6])) = HB at *
    generalize oddL ++ [V.ref q1, .ref q2, .ref q3, .ref q4, .ref q5, .ref q6] = sL at *
    refine ⟨qq, rfl, ⟨_, sql kqq⟩, ?_⟩
    refine for_list (xs := sL) (fun i σ3 H3 => ∃ (p : Addr) (y4 : Option V), σ3 = [some (.ref a), some (.ref r), some (.ref p), some (.ref od), y4, none, none, none, none, none, none, none] ∧ Le HB H3 ∧ VL K p H3 (8 + 3 * i)) ⟨p, none, rfl, Le.refl _, vlB⟩ (fun i σ3 H3 _ ⟨p, y4, _, l3, _⟩ => sql (l3.lst kqq)) ?_ ?_
    · rintro i x σ3 H3 hx ⟨p, y4, rfl, l3, us, ku, ul, uA⟩
      have hi13 := (List.getElem?_eq_some_iff.mp hx).1
      have gx := allA x (List.mem_of_getElem? hx)
      refine ⟨_, rfl, _, rfl, _, rfl, (by decide : 3 ≤ sizeLine), fun t1 ht1 => ⟨(by decide : 2 ≤ sizeLine), fun t2 ht2 => ⟨_, rfl, (by decide : 1 ≤ sizeLine), fun t3 ht3 => ⟨(by decide : 3 ≤ sizeLine), fun t4 ht4 => ⟨(by decide : 2 ≤ sizeLine), fun t5 ht5 => ⟨(by decide : 3 ≤ sizeLine), fun t6 ht6 => ?_⟩⟩⟩⟩⟩⟩
      have d1 := Le.new (o := .tup [.str "b", .int 1, .int 0]) ht1
      have e1 : GdN 4 K (upd H3 t1 (.tup [.str "b", .int 1, .int 0])) (.ref t1) := gd3 (sqt upd_same) gB (gd_int _) (gd_int _)
      generalize upd H3 t1 (.tup [.str "b", .int 1, .int 0]) = J1 at *
      have d2 := Le.new (o := .tup [x, .ref t1]) ht2
      have e2 : GdN 10 K (upd J1 t2 (.tup [x, .ref t1])) (.ref t2) := gd_tup (sqt upd_same) (gdl_cons ((l3.trans (d1.trans d2)).gd gx) (gdl_cons (d2.gd e1) gdl_nil))
      generalize upd J1 t2 (.tup [x, .ref t1]) = J2 at *
      have d3 := Le.new (o := .tup [x]) ht3
      have e3 : GdN 6 K (upd J2 t3 (.tup [x])) (.ref t3) := gd_tup (sqt upd_same) (gdl_cons ((l3.trans (d1.trans (d2.trans d3))).gd gx) gdl_nil)
      generalize upd J2 t3 (.tup [x]) = J3 at *
      have d4 := Le.new (o := .tup [.str "b", .int 1, .int 0]) ht4
      have e4 : GdN 4 K (upd J3 t4 (.tup [.str "b", .int 1, .int 0])) (.ref t4) := gd3 (sqt upd_same) gB (gd_int _) (gd_int _)
      generalize upd J3 t4 (.tup [.str "b", .int 1, .int 0]) = J4 at *
      have d5 := Le.new (o := .tup [.ref t3, .ref t4]) ht5
      have e5 : GdN 11 K (upd J4 t5 (.tup [.ref t3, .ref t4])) (.ref t5) := gd_tup (sqt upd_same) (gdl_cons ((d4.trans d5).gd e3) (gdl_cons (d5.gd e4) gdl_nil))
      generalize upd J4 t5 (.tup [.ref t3, .ref t4]) = J5 at *
      have d6 := Le.new (o := .lst [x, .ref t2, .ref t5]) ht6
      have d16 := d1.trans (d2.trans (d3.trans (d4.trans (d5.trans d6))))
      have newA : ∀ u ∈ [x, .ref t2, .ref t5], GdN 200 K (upd J5 t6 (.lst [x, .ref t2, .ref t5])) u := by
        intro u hu
        simp only [List.mem_cons, List.not_mem_nil, or_false] at hu
        rcases hu with rfl | rfl | rfl
        · exact ((l3.trans d16).gd gx).up (by decide)
        · exact ((d3.trans (d4.trans (d5.trans d6))).gd e2).up (by decide)
        · exact (d6.gd e5).up (by decide)
      have uA6 : ∀ u ∈ us, GdN 200 K (aside p (upd J5 t6 (.lst [x, .ref t2, .ref t5]))) u := fun u hu => (d16.aside (by rw [ku]; simp)).gd (uA u hu)
      refine ⟨p, t6, us, _, rfl, rfl, d16.lst ku, upd_same, sz (by simp only [List.length_cons, List.length_nil]; omega), fun t7 ht7 => ?_⟩
      exact ⟨t7, _, rfl, l3.trans (d16.trans (Le.new ht7)), VL.cat (d16.lst ku) ul uA6 ht7 newA⟩
    · rintro σ3 H3 ⟨p, y4, rfl, l3, vl3⟩
      rw [sl] at vl3
      exact ⟨p, _, _, rfl, lB.trans l3, vl3⟩
  rintro σ3 H3 ⟨p, y3, y4, rfl, l3, vl3⟩
  -- for index in (0, 2, 4)
  refine ⟨fun σ4 H4 => ∃ (p : Addr) (z1 z3 z4 z5 z6 z7 z8 z9 : Option V), σ4 = [some (.ref a), z1, some (.ref p), z3, z4, z5, z6, z7, z8, z9, none, none] ∧ Le H H4 ∧ VL K p H4 173, ?_, ?_⟩
  · refine ⟨(by decide : 3 ≤ sizeLine), fun tt htt => ⟨tt, rfl, ⟨_, sqt upd_same⟩, ?_⟩⟩
    have lt := Le.new (o := .tup [.int 0, .int 2, .int 4]) htt
    have ktt : upd H3 tt (.tup [.int 0, .int 2, .int 4]) tt = some (.tup [.int 0, .int 2, .int 4]) := upd_same
    have vlt := vl3.le lt
    have lH := l3.trans lt
    generalize upd H3 tt (.tup [.int 0, .int 2, .int 4]) = HT at *
    refine for_tup (xs := [V.int 0, V.int 2, V.int 4]) (fun i σ4 H4 => ∃ (p : Addr) (z1 z3 z4 z5 z6 z7 z8 z9 : Option V), σ4 = [some (.ref a), z1, some (.ref p), z3, z4, z5, z6, z7, z8, z9, none, none] ∧ Le HT H4 ∧ VL K p H4 (47 + 42 * i)) ⟨p, _, _, _, _, _, _, _, _, rfl, Le.refl _, vlt⟩ (fun i σ4 H4 _ ⟨p, z1, z3, z4, z5, z6, z7, z8, z9, _, l4, _⟩ => sqt (l4.tup ktt)) ?_ ?_
    · rintro i x σ4 H4 hx ⟨p, z1, z3, z4, z5, z6, z7, z8, z9, rfl, l4, us, ku, ul, uA⟩
      have hi3 : i < 3 := (List.getElem?_eq_some_iff.mp hx).1
      obtain ⟨ix, rfl, ix0, ix1⟩ : ∃ ix : Int, x = .int ix ∧ 0 ≤ ix ∧ ix ≤ 1000 := by
        have hm := List.mem_of_getElem? hx
        simp only [List.mem_cons, List.not_mem_nil, or_false] at hm
        rcases hm with rfl | rfl | rfl
        · exact ⟨0, rfl, by decide, by decide⟩
        · exact ⟨2, rfl, by decide, by decide⟩
        · exact ⟨4, rfl, by decide, by decide⟩
      have lH4 := lH.trans l4
      -- digits
      refine ⟨_, rfl, _, rfl, a, ns, ix, 60, 27720, rfl, lH4.sql hS, h63, ix0, ix1, by decide, by decide, by decide, by decide, fun ds g Hd dl dr ld hg kg => ?_⟩
      have dl60 : ds.length = 60 := dl
      have dnn : Nn ds := fun d hd => (dr d hd).1
      -- rig
      refine ⟨_, rfl, g, 6, ds, rfl, by decide, by decide, sql kg, dnn, by omega, fun t v Hr rok dpv lr => ?_⟩
      have rok : RigOk 6 t := rok
      have gv := rig_gd rok dpv
      obtain ⟨ra, rus, rfl, hra, gra⟩ := rig_items rok dpv
      have kg := lr.lst kg
      have lHr := lH4.trans (ld.trans lr)
      have kur := (ld.trans lr).lst ku
      have uAr : ∀ u ∈ us, GdN 200 K (aside p Hr) u := fun u hu => ((ld.trans lr).aside (by rw [ku]; simp)).gd (uA u hu)
      have lTr := l4.trans (ld.trans lr)
      -- values = values + [rig, ..]
      refine ⟨fun σ5 H5 => ∃ p, σ5 = [some (.ref a), z1, some (.ref p), z3, z4, some (.int ix), some (.ref g), some (.ref ra), z8, z9, none, none] ∧ Le Hr H5 ∧ Hr p = none ∧ VL K p H5 (47 + 42 * i + 5), ?_, ?_⟩
      · refine ⟨_, rfl, _, rfl, _, rfl, ra, rus, rfl, .inr hra, fun q1 hq1 => ⟨_, rfl, _, rfl, (by decide : 2 ≤ sizeLine), fun q2 hq2 => ⟨_, rfl, (by decide : 3 ≤ sizeLine), fun q3 hq3 => ⟨(by decide : 2 ≤ sizeLine), fun q4 hq4 => ⟨_, rfl, (by decide : 1 ≤ sizeLine), fun q5 hq5 => ⟨(by decide : 5 ≤ sizeLine), fun q6 hq6 => ?_⟩⟩⟩⟩⟩⟩
        have d1 := Le.new (o := .lst rus) hq1
        have e1 : GdN 29 K (upd Hr q1 (.lst rus)) (.ref q1) := by
          obtain ⟨es, r1, r2, r3⟩ := gra
          exact gd_lst (sql upd_same) ⟨es, d1.dpAll r1, r2, r3⟩
        generalize upd Hr q1 (.lst rus) = J1 at *
        have d2 := Le.new (o := .tup [.ref ra, .ref ra]) hq2
        have e2 : GdN 59 K (upd J1 q2 (.tup [.ref ra, .ref ra])) (.ref q2) := gd_tup (sqt upd_same) (gdl_cons ((d1.trans d2).gd gv) (gdl_cons ((d1.trans d2).gd gv) gdl_nil))
        generalize upd J1 q2 (.tup [.ref ra, .ref ra]) = J2 at *
        have d3 := Le.new (o := .tup [.str "zed", .int 5, .int 0]) hq3
        have e3 : GdN 4 K (upd J2 q3 (.tup [.str "zed", .int 5, .int 0])) (.ref q3) := gd3 (sqt upd_same) gZ (gd_int _) (gd_int _)
        generalize upd J2 q3 (.tup [.str "zed", .int 5, .int 0]) = J3 at *
        have d4 := Le.new (o := .tup [.ref ra, .ref q3]) hq4
        have e4 : GdN 34 K (upd J3 q4 (.tup [.ref ra, .ref q3])) (.ref q4) := gd_tup (sqt upd_same) (gdl_cons ((d1.trans (d2.trans (d3.trans d4))).gd gv) (gdl_cons (d4.gd e3) gdl_nil))
        generalize upd J3 q4 (.tup [.ref ra, .ref q3]) = J4 at *
        have d5 := Le.new (o := .tup [.ref ra]) hq5
        have e5 : GdN 30 K (upd J4 q5 (.tup [.ref ra])) (.ref q5) := gd_tup (sqt upd_same) (gdl_cons ((d1.trans (d2.trans (d3.trans (d4.trans d5)))).gd gv) gdl_nil)
        generalize upd J4 q5 (.tup [.ref ra]) = J5 at *
        have d6 := Le.new (o := .lst [.ref ra, .ref q1, .ref q2, .ref q4, .ref q5]) hq6
        have d16 := d1.trans (d2.trans (d3.trans (d4.trans (d5.trans d6))))
        have newA : ∀ u ∈ [V.ref ra, .ref q1, .ref q2, .ref q4, .ref q5], GdN 200 K (upd J5 q6 (.lst [.ref ra, .ref q1, .ref q2, .ref q4, .ref q5])) u := by
          intro u hu
          simp only [List.mem_cons, List.not_mem_nil, or_false] at hu
          rcases hu with rfl | rfl | rfl | rfl | rfl
          · exact (d16.gd gv).up (by decide)
          · exact ((d2.trans (d3.trans (d4.trans (d5.trans d6)))).gd e1).up (by decide)
          · exact ((d3.trans (d4.trans (d5.trans d6))).gd e2).up (by decide)
          · exact ((d5.trans d6).gd e4).up (by decide)
          · exact (d6.gd e5).up (by decide)
        have uA6 : ∀ u ∈ us, GdN 200 K (aside p (upd J5 q6 (.lst [.ref ra, .ref q1, .ref q2, .ref q4, .ref q5]))) u := fun u hu => (d16.aside (by rw [kur]; simp)).gd (uAr u hu)
        refine ⟨p, q6, us, _, rfl, rfl, d16.lst kur, upd_same, sz (by simp only [List.length_cons, List.length_nil]; omega), fun q7 hq7 => ?_⟩
        exact ⟨q7, rfl, d16.trans (Le.new hq7), d16.dom _ hq7, VL.cat (d16.lst kur) ul uA6 hq7 newA⟩
      rintro σ5 H5 ⟨p, rfl, l5, hpr, us, ku, ul, uA⟩
      -- values.append
      refine ⟨_, rfl, .inl ⟨rfl, _, sql ku⟩, (by decide : 3 ≤ sizeLine), fun t1 ht1 => ⟨(by decide : 3 ≤ sizeLine), fun t2 ht2 => ⟨_, rfl, (by decide : 3 ≤ sizeLine), fun t3 ht3 => ?_⟩⟩⟩
      have d1 := Le.new (o := .tup [.str "zed", .int 5, .int 0]) ht1
      have k1 : upd H5 t1 (.tup [.str "zed", .int 5, .int 0]) t1 = some (.tup [.str "zed", .int 5, .int 0]) := upd_same
      generalize upd H5 t1 (.tup [.str "zed", .int 5, .int 0]) = J1 at *
      have d2 := Le.new (o := .tup [.str "yak", .int 5, .int 1]) ht2
      have k2 : upd J1 t2 (.tup [.str "yak", .int 5, .int 1]) t2 = some (.tup [.str "yak", .int 5, .int 1]) := upd_same
      generalize upd J1 t2 (.tup [.str "yak", .int 5, .int 1]) = J2 at *
      have d3 := Le.new (o := .tup [.ref t1, .ref t2, .ref ra]) ht3
      have k3 : upd J2 t3 (.tup [.ref t1, .ref t2, .ref ra]) t3 = some (.tup [.ref t1, .ref t2, .ref ra]) := upd_same
      have k2 := d3.tup k2
      have k1 := (d2.trans d3).tup k1
      have d13 := d1.trans (d2.trans d3)
      have ku3 := d13.lst ku
      generalize upd J2 t3 (.tup [.ref t1, .ref t2, .ref ra]) = J3 at *
      have n1 : t1 ≠ p := ne_of k1 ku3 (by intro z; cases z)
      have n2 : t2 ≠ p := ne_of k2 ku3 (by intro z; cases z)
      have n3 : t3 ≠ p := ne_of k3 ku3 (by intro z; cases z)
      have gvp : GdN 29 K (aside p J3) (.ref ra) := ((l5.trans d13).asideR hpr).gd gv
      have gt3 : GdN 200 K (aside p J3) (.ref t3) := (gd_tup (sqt ((aside_ne n3).trans k3)) (gdl_cons (gd3 (sqt ((aside_ne n1).trans k1)) gZ (gd_int _) (gd_int _)) (gdl_cons (gd3 (sqt ((aside_ne n2).trans k2)) gY (gd_int _) (gd_int _)) (gdl_cons gvp gdl_nil)))).up (by decide)
      have uA3 : ∀ u ∈ us, GdN 200 K (aside p J3) u := fun u hu => (d13.aside (by rw [ku]; simp)).gd (uA u hu)
      refine ⟨p, us, _, rfl, rfl, ku3, szlt (by omega), ?_⟩
      have vl6 := VL.app (v := .ref t3) ul uA3 gt3
      have l6 : Le Hr (upd J3 p (.lst (us ++ [.ref t3]))) := (l5.trans d13).mut hpr
      generalize upd J3 p (.lst (us ++ [.ref t3])) = H6 at vl6 l6
      -- for k in range(12)
      refine ⟨12, rfl, by decide, by decide, ?_⟩
      refine for_range (lo := 0) (n := 12) (fun j σ7 H7 => ∃ (p : Addr) (z1 z8 z9 : Option V), σ7 = [some (.ref a), z1, some (.ref p), z3, z4, some (.int ix), some (.ref g), some (.ref ra), z8, z9, none, none] ∧ Le Hr H7 ∧ Hr p = none ∧ VL K p H7 (47 + 42 * i + 6 + 3 * j)) ⟨p, z1, z8, z9, rfl, l6, hpr, vl6⟩ ?_ ?_
      · rintro j σ7 H7 hj ⟨p, z1, z8, z9, rfl, l7, hpr, us, ku, ul, uA⟩
        have kk0 : (0 : Int) ≤ 0 + (j : Int) := by omega
        have kk1 : (0 : Int) + (j : Int) ≤ 11 := by omega
        generalize (0 : Int) + (j : Int) = kk at kk0 kk1
        -- row
        refine ⟨_, rfl, _, rfl, _, _, rfl, rfl, .inl ⟨by decide, by decide⟩, _, rfl, _, rfl, _, _, rfl, rfl, .inl ⟨by decide, by decide⟩, _, _, rfl, rfl, _, rfl, g, _, rfl, sql (l7.lst kg), fun rw_ hrw => ?_⟩
        have d1 := Le.new (o := .lst (cutV (ds.map V.int) (some (4 * kk)) (some (4 * kk + 5)))) hrw
        have krw : upd H7 rw_ (.lst (cutV (ds.map V.int) (some (4 * kk)) (some (4 * kk + 5)))) rw_ = some (.lst (((ds.drop (4 * kk).toNat).take ((4 * kk + 5).toNat - (4 * kk).toNat)).map V.int)) := by
          rw [upd_same, cut_ints (by omega) (by omega)]
        have rnn : Nn ((ds.drop (4 * kk).toNat).take ((4 * kk + 5).toNat - (4 * kk).toNat)) := fun d hd => dnn d (List.mem_of_mem_drop (List.mem_of_mem_take hd))
        have rlen : 5 ≤ ((ds.drop (4 * kk).toNat).take ((4 * kk + 5).toNat - (4 * kk).toNat)).length := by
          rw [List.length_take, List.length_drop]
          omega
        generalize (ds.drop (4 * kk).toNat).take ((4 * kk + 5).toNat - (4 * kk).toNat) = rds at krw rnn rlen
        generalize upd H7 rw_ (.lst (cutV (ds.map V.int) (some (4 * kk)) (some (4 * kk + 5)))) = J1 at d1 krw
        have lr1 := l7.trans d1
        -- mutated
        obtain ⟨e0, dv0, gv0, sv0⟩ := lr1.gd gv
        refine ⟨_, rfl, _, rfl, _, e0, rw_, rds, rfl, dv0, gv0, by omega, sql krw, rnn, rlen, fun v1 e1 J2 d2 h1 h2 h3 => ?_⟩
        -- values + [mutated, mutated again]
        refine ⟨_, rfl, _, rfl, _, rfl, _, rfl, rw_, _, rfl, .inl (sql (d2.lst krw)), fun rr J3 d3 hrr kL kT kS => ?_⟩
        have krr := kL (sql (d2.lst krw))
        rw [← List.map_reverse] at krr
        refine ⟨v1, e1, rr, rds.reverse, rfl, d3.dp h1, h2, by omega, sql krr, fun d hd => rnn d (List.mem_reverse.mp hd), by rw [List.length_reverse]; exact rlen, fun v2 e2 J4 d4 h4 h5 h6 => ?_⟩
        refine ⟨(by decide : 2 ≤ sizeLine), fun q1 hq1 => ?_⟩
        have d5 := Le.new (o := .lst [v1, v2]) hq1
        have d15 := d1.trans (d2.trans (d3.trans (d4.trans d5)))
        have newA : ∀ u ∈ [v1, v2], GdN 200 K (upd J4 q1 (.lst [v1, v2])) u := by
          intro u hu
          simp only [List.mem_cons, List.not_mem_nil, or_false] at hu
          rcases hu with rfl | rfl
          · exact ⟨e1, (d3.trans (d4.trans d5)).dp h1, h2, by omega⟩
          · exact ⟨e2, d5.dp h4, h5, by omega⟩
        have uA5 : ∀ u ∈ us, GdN 200 K (aside p (upd J4 q1 (.lst [v1, v2]))) u := fun u hu => (d15.aside (by rw [ku]; simp)).gd (uA u hu)
        refine ⟨p, q1, us, _, rfl, rfl, d15.lst ku, upd_same, sz (by simp only [List.length_cons, List.length_nil]; omega), fun q2 hq2 => ?_⟩
        have vl8 := VL.cat (d15.lst ku) ul uA5 hq2 newA
        have l8 := l7.trans (d15.trans (Le.new (o := .lst (us ++ [v1, v2])) hq2))
        have hq2r : Hr q2 = none := (l7.trans d15).dom _ hq2
        generalize upd (upd J4 q1 (.lst [v1, v2])) q2 (.lst (us ++ [v1, v2])) = H8 at vl8 l8
        obtain ⟨us8, ku8, ul8, uA8⟩ := vl8
        have ul8' : us8.length ≤ 47 + 42 * i + 6 + 3 * j + 2 := ul8
        -- values.append(any value)
        refine ⟨_, rfl, .inl ⟨rfl, _, sql ku8⟩, ?_⟩
        refine ⟨_, rfl, _, rfl, _, rfl, g, _, rfl, sql (l8.lst kg), fun p1 hp1 => ?_⟩
        have b1 := Le.new (o := .lst (cutV (ds.map V.int) (some kk) none)) hp1
        refine ⟨_, rfl, _, rfl, _, rfl, g, _, rfl, sql ((l8.trans b1).lst kg), fun p2 hp2 => ?_⟩
        have b2 := Le.new (o := .lst (cutV (ds.map V.int) none (some kk))) hp2
        refine ⟨p1, p2, _, _, rfl, rfl, b2.lst upd_same, upd_same, ?_, fun p3 hp3 => ?_⟩
        · have z1 := cutV_length (ds.map V.int) (some kk) none
          have z2 := cutV_length (ds.map V.int) none (some kk)
          rw [List.length_map] at z1 z2
          exact sz (by omega)
        have b3 := Le.new (o := .lst (cutV (ds.map V.int) (some kk) none ++ cutV (ds.map V.int) none (some kk))) hp3
        have np3 : p3 ≠ q2 := fun z => by
          have n2 := (b1.trans b2).lst ku8
          rw [z, n2] at hp3
          cases hp3
        have k3 : upd (upd (upd H8 p1 (.lst (cutV (ds.map V.int) (some kk) none))) p2 (.lst (cutV (ds.map V.int) none (some kk)))) p3 (.lst (cutV (ds.map V.int) (some kk) none ++ cutV (ds.map V.int) none (some kk))) p3 = some (.lst ((ds.drop kk.toNat ++ ds.take kk.toNat).map V.int)) := by
          rw [upd_same, cut_from kk0, cut_to kk0, List.map_append, List.map_drop, List.map_take]
        have b := b1.trans (b2.trans b3)
        generalize upd (upd (upd H8 p1 (.lst (cutV (ds.map V.int) (some kk) none))) p2 (.lst (cutV (ds.map V.int) none (some kk)))) p3 (.lst (cutV (ds.map V.int) (some kk) none ++ cutV (ds.map V.int) none (some kk))) = H9 at k3 b
        have ku9 := b.lst ku8
        have uA9 : ∀ u ∈ us8, GdN 200 K (aside q2 H9) u := fun u hu => (b.aside (by rw [ku8]; simp)).gd (uA8 u hu)
        refine ⟨q2, us8, ku9, p3, 0, ds.drop kk.toNat ++ ds.take kk.toNat, rfl, sql ((aside_ne np3).trans k3), ?_, ?_, ?_, by decide, by decide, by decide, fun v e Ha la h1 h2 h3 free => ?_⟩
        · intro x hx
          rcases List.mem_append.mp hx with z | z
          · exact dnn x (List.mem_of_mem_drop z)
          · exact dnn x (List.mem_of_mem_take z)
        · rw [List.length_append, List.length_drop, List.length_take]
          omega
        · rw [List.length_append, List.length_drop, List.length_take]
          omega
        have h3' : sizeD e ≤ 121 := h3
        refine ⟨q2, us8, _, rfl, rfl, upd_same, szlt (by omega), ?_⟩
        have lz : Le Hr (upd (upd Ha q2 (.lst us8)) q2 (.lst (us8 ++ [v]))) := ((((l8.trans b).asideR hq2r).trans la).mut hq2r).mut hq2r
        refine ⟨q2, _, _, _, rfl, lz, hq2r, us8 ++ [v], upd_same, by rw [List.length_append, List.length_singleton]; omega, fun u hu => ?_⟩
        rw [aside_upd, aside_upd, aside_none free]
        rcases List.mem_append.mp hu with z | z
        · exact la.gd (uA9 u z)
        · rw [List.mem_singleton.mp z]
          exact ⟨e, h1, h2, by omega⟩
      · rintro σ7 H7 ⟨p, z1, z8, z9, rfl, l7, hpr, us, ku, ul, uA⟩
        exact ⟨p, _, _, _, _, _, _, _, _, rfl, lTr.trans l7, us, ku, by omega, uA⟩
    · rintro σ4 H4 ⟨p, z1, z3, z4, z5, z6, z7, z8, z9, rfl, l4, vl4⟩
      exact ⟨p, _, _, _, _, _, _, _, _, rfl, lH.trans l4, vl4⟩
  rintro σ4 H4 ⟨p, z1, z3, z4, z5, z6, z7, z8, z9, rfl, l4, us, ku, ul, uA⟩
  have uA4 : ∀ u ∈ us, GdN 200 K H4 u := fun u hu => Le.asideL.gd (uA u hu)
  -- for value in values
  refine ⟨_, rfl, p, rfl, ⟨_, sql ku⟩, ?_⟩
  refine for_list (xs := us) (fun i σ5 H5 => ∃ z10 : Option V, σ5 = [some (.ref a), z1, some (.ref p), z3, z4, z5, z6, z7, z8, z9, z10, none] ∧ Le H4 H5) ⟨none, rfl, Le.refl _⟩ (fun i σ5 H5 _ ⟨z10, _, l5⟩ => sql (l5.lst ku)) ?_ ?_
  · rintro i x σ5 H5 hx ⟨z10, rfl, l5⟩
    obtain ⟨e, h1, h2, h3⟩ := uA4 x (List.mem_of_getElem? hx)
    refine ⟨_, rfl, x, e, rfl, l5.dp h1, h2, by omega, (l4.trans l5).tab _ hT, fun H6 l6 => ?_⟩
    refine ⟨_, rfl, x, e, rfl, (l5.trans l6).dp h1, h2, h3, fun H7 l7 => ?_⟩
    refine ⟨_, _, rfl, _, rfl, ?_⟩
    rw [decide_eq_true rfl]
    exact iteF ⟨_, rfl, l5.trans (l6.trans l7)⟩
  · rintro σ5 H5 ⟨z10, rfl, l5⟩
    exact q H5
end
end Wr

set_option Elab.async false
set_option linter.all false
set_option maxRecDepth 100000
set_option maxHeartbeats 4000000
namespace Wr
open PySem PySem.Spec PyProof.Rows L2
def genNames : List Str := ["is_name"]
theorem all_mk {l : PySem.W.OpenLaw} {w : World} {K : PySem.W.Frag} {h : Heap} {mg : Str → Option Value} {fa : Addr} (X : K.In h) (Gn : h.Ns mainGlobals mg) (hfa : mg "law" = some (.ref fa))
    {f1 : Addr} {od1 an1 : Option Addr} {sl1 : Array (Option Value)} {oc1 kV1 dc1 pm1 ct1 : Value} {cd1 : Value}
    {f2 : Addr} {od2 an2 : Option Addr} {sl2 : Array (Option Value)} {oc2 kV2 dc2 pm2 ct2 : Value} {cc2 pp2 : Addr} {dd2 : Option Addr} {vv2 : Array Value} {ss2 : Array (Option Value)}
    {f3 : Addr} {od3 an3 : Option Addr} {sl3 : Array (Option Value)} {oc3 kV3 dc3 pm3 ct3 : Value} {cd3 : Value}
    {f4 : Addr} {od4 an4 : Option Addr} {sl4 : Array (Option Value)} {oc4 kV4 dc4 pm4 ct4 : Value} {cd4 : Value}
    {f5 : Addr} {od5 an5 : Option Addr} {sl5 : Array (Option Value)} {oc5 kV5 dc5 pm5 ct5 : Value} {cd5 : Value}
    {f6 : Addr} {od6 an6 : Option Addr} {sl6 : Array (Option Value)} {oc6 kV6 dc6 pm6 ct6 : Value} {cd6 : Value}
    {f7 : Addr} {od7 an7 : Option Addr} {sl7 : Array (Option Value)} {oc7 kV7 dc7 pm7 ct7 : Value} {cd7 : Value}
    {f8 : Addr} {od8 an8 : Option Addr} {sl8 : Array (Option Value)} {oc8 kV8 dc8 pm8 ct8 : Value} {cd8 : Value}
    {f9 : Addr} {od9 an9 : Option Addr} {sl9 : Array (Option Value)} {oc9 kV9 dc9 pm9 ct9 : Value} {cd9 : Value}
    {f10 : Addr} {od10 an10 : Option Addr} {sl10 : Array (Option Value)} {oc10 kV10 dc10 pm10 ct10 : Value} {cd10 : Value}
    {f11 : Addr} {od11 an11 : Option Addr} {sl11 : Array (Option Value)} {oc11 kV11 dc11 pm11 ct11 : Value} {cd11 : Value}
    {f12 : Addr} {od12 an12 : Option Addr} {sl12 : Array (Option Value)} {oc12 kV12 dc12 pm12 ct12 : Value} {cd12 : Value}
    {f13 : Addr} {od13 an13 : Option Addr} {sl13 : Array (Option Value)} {oc13 kV13 dc13 pm13 ct13 : Value} {cd13 : Value}
    {f14 : Addr} {od14 an14 : Option Addr} {sl14 : Array (Option Value)} {oc14 kV14 dc14 pm14 ct14 : Value} {cd14 : Value}
    {f15 : Addr} {od15 an15 : Option Addr} {sl15 : Array (Option Value)} {oc15 kV15 dc15 pm15 ct15 : Value} {cd15 : Value}
    {f16 : Addr} {od16 an16 : Option Addr} {sl16 : Array (Option Value)} {oc16 kV16 dc16 pm16 ct16 : Value} {cd16 : Value}
    {f17 : Addr} {od17 an17 : Option Addr} {sl17 : Array (Option Value)} {oc17 kV17 dc17 pm17 ct17 : Value} {cd17 : Value}
    {f18 : Addr} {od18 an18 : Option Addr} {sl18 : Array (Option Value)} {oc18 kV18 dc18 pm18 ct18 : Value} {cd18 : Value}
    {f19 : Addr} {od19 an19 : Option Addr} {sl19 : Array (Option Value)} {oc19 kV19 dc19 pm19 ct19 : Value} {cd19 : Value}
    {tt_MOST_STRANDS : Tok}
    {tt_LARGEST_WEAR : Tok}
    (a1 : PySem.W.nsIn K mainGlobals "is_between" = some (some (.ref f1)))
    (l1 : K.lookup f1 = some ⟨oc1, od1, .func (PySem.W.fnOf "is_between" "is_between" (defArgs s_is_between) (defBody s_is_between) (defScope s_is_between) .none kV1 dc1 pm1 an1 cd1 ct1), sl1⟩)
    (c1 : PySem.W.codeIn K cd1 "is_between" = true)
    (k1 : PySem.W.keepIn K (.ref f1) = true)
    (a2 : PySem.W.nsIn K mainGlobals "is_name" = some (some (.ref f2)))
    (l2 : K.lookup f2 = some ⟨oc2, od2, .func (PySem.W.fnOf "is_name" "is_name" (defArgs s_is_name) (defBody s_is_name) (defScope s_is_name) .none kV2 dc2 pm2 an2 (.ref cc2) ct2), sl2⟩)
    (c2 : PySem.W.codeIn K (.ref cc2) "is_name" = true)
    (k2 : PySem.W.keepIn K (.ref f2) = true)
    (lc2 : K.lookup cc2 = some ⟨.type "code", dd2, .fields vv2, ss2⟩)
    (lv2 : CodeVs vv2 pp2)
    (lp2 : K.lookup pp2 = none)
    (a3 : PySem.W.nsIn K mainGlobals "is_strand" = some (some (.ref f3)))
    (l3 : K.lookup f3 = some ⟨oc3, od3, .func (PySem.W.fnOf "is_strand" "is_strand" (defArgs s_is_strand) (defBody s_is_strand) (defScope s_is_strand) .none kV3 dc3 pm3 an3 cd3 ct3), sl3⟩)
    (c3 : PySem.W.codeIn K cd3 "is_strand" = true)
    (k3 : PySem.W.keepIn K (.ref f3) = true)
    (a4 : PySem.W.nsIn K mainGlobals "is_rig" = some (some (.ref f4)))
    (l4 : K.lookup f4 = some ⟨oc4, od4, .func (PySem.W.fnOf "is_rig" "is_rig" (defArgs s_is_rig) (defBody s_is_rig) (defScope s_is_rig) .none kV4 dc4 pm4 an4 cd4 ct4), sl4⟩)
    (c4 : PySem.W.codeIn K cd4 "is_rig" = true)
    (k4 : PySem.W.keepIn K (.ref f4) = true)
    (a5 : PySem.W.nsIn K mainGlobals "_law_cell" = some (some (.ref f5)))
    (l5 : K.lookup f5 = some ⟨oc5, od5, .func (PySem.W.fnOf "_law_cell" "_law_cell" (defArgs s__law_cell) (defBody s__law_cell) (defScope s__law_cell) .none kV5 dc5 pm5 an5 cd5 ct5), sl5⟩)
    (c5 : PySem.W.codeIn K cd5 "_law_cell" = true)
    (k5 : PySem.W.keepIn K (.ref f5) = true)
    (a6 : PySem.W.nsIn K mainGlobals "_law_digits" = some (some (.ref f6)))
    (l6 : K.lookup f6 = some ⟨oc6, od6, .func (PySem.W.fnOf "_law_digits" "_law_digits" (defArgs s__law_digits) (defBody s__law_digits) (defScope s__law_digits) .none kV6 dc6 pm6 an6 cd6 ct6), sl6⟩)
    (c6 : PySem.W.codeIn K cd6 "_law_digits" = true)
    (k6 : PySem.W.keepIn K (.ref f6) = true)
    (a7 : PySem.W.nsIn K mainGlobals "_law_is_integer" = some (some (.ref f7)))
    (l7 : K.lookup f7 = some ⟨oc7, od7, .func (PySem.W.fnOf "_law_is_integer" "_law_is_integer" (defArgs s__law_is_integer) (defBody s__law_is_integer) (defScope s__law_is_integer) .none kV7 dc7 pm7 an7 cd7 ct7), sl7⟩)
    (c7 : PySem.W.codeIn K cd7 "_law_is_integer" = true)
    (k7 : PySem.W.keepIn K (.ref f7) = true)
    (a8 : PySem.W.nsIn K mainGlobals "_law_same_bool" = some (some (.ref f8)))
    (l8 : K.lookup f8 = some ⟨oc8, od8, .func (PySem.W.fnOf "_law_same_bool" "_law_same_bool" (defArgs s__law_same_bool) (defBody s__law_same_bool) (defScope s__law_same_bool) .none kV8 dc8 pm8 an8 cd8 ct8), sl8⟩)
    (c8 : PySem.W.codeIn K cd8 "_law_same_bool" = true)
    (k8 : PySem.W.keepIn K (.ref f8) = true)
    (a9 : PySem.W.nsIn K mainGlobals "_law_paths" = some (some (.ref f9)))
    (l9 : K.lookup f9 = some ⟨oc9, od9, .func (PySem.W.fnOf "_law_paths" "_law_paths" (defArgs s__law_paths) (defBody s__law_paths) (defScope s__law_paths) .none kV9 dc9 pm9 an9 cd9 ct9), sl9⟩)
    (c9 : PySem.W.codeIn K cd9 "_law_paths" = true)
    (k9 : PySem.W.keepIn K (.ref f9) = true)
    (a10 : PySem.W.nsIn K mainGlobals "_law_other_value" = some (some (.ref f10)))
    (l10 : K.lookup f10 = some ⟨oc10, od10, .func (PySem.W.fnOf "_law_other_value" "_law_other_value" (defArgs s__law_other_value) (defBody s__law_other_value) (defScope s__law_other_value) .none kV10 dc10 pm10 an10 cd10 ct10), sl10⟩)
    (c10 : PySem.W.codeIn K cd10 "_law_other_value" = true)
    (k10 : PySem.W.keepIn K (.ref f10) = true)
    (a11 : PySem.W.nsIn K mainGlobals "_law_moved_item" = some (some (.ref f11)))
    (l11 : K.lookup f11 = some ⟨oc11, od11, .func (PySem.W.fnOf "_law_moved_item" "_law_moved_item" (defArgs s__law_moved_item) (defBody s__law_moved_item) (defScope s__law_moved_item) .none kV11 dc11 pm11 an11 cd11 ct11), sl11⟩)
    (c11 : PySem.W.codeIn K cd11 "_law_moved_item" = true)
    (k11 : PySem.W.keepIn K (.ref f11) = true)
    (a12 : PySem.W.nsIn K mainGlobals "_law_change_at" = some (some (.ref f12)))
    (l12 : K.lookup f12 = some ⟨oc12, od12, .func (PySem.W.fnOf "_law_change_at" "_law_change_at" (defArgs s__law_change_at) (defBody s__law_change_at) (defScope s__law_change_at) .none kV12 dc12 pm12 an12 cd12 ct12), sl12⟩)
    (c12 : PySem.W.codeIn K cd12 "_law_change_at" = true)
    (k12 : PySem.W.keepIn K (.ref f12) = true)
    (a13 : PySem.W.nsIn K mainGlobals "_law_mutated" = some (some (.ref f13)))
    (l13 : K.lookup f13 = some ⟨oc13, od13, .func (PySem.W.fnOf "_law_mutated" "_law_mutated" (defArgs s__law_mutated) (defBody s__law_mutated) (defScope s__law_mutated) .none kV13 dc13 pm13 an13 cd13 ct13), sl13⟩)
    (c13 : PySem.W.codeIn K cd13 "_law_mutated" = true)
    (k13 : PySem.W.keepIn K (.ref f13) = true)
    (a14 : PySem.W.nsIn K mainGlobals "_law_any_value" = some (some (.ref f14)))
    (l14 : K.lookup f14 = some ⟨oc14, od14, .func (PySem.W.fnOf "_law_any_value" "_law_any_value" (defArgs s__law_any_value) (defBody s__law_any_value) (defScope s__law_any_value) .none kV14 dc14 pm14 an14 cd14 ct14), sl14⟩)
    (c14 : PySem.W.codeIn K cd14 "_law_any_value" = true)
    (k14 : PySem.W.keepIn K (.ref f14) = true)
    (a15 : PySem.W.nsIn K mainGlobals "_law_tree" = some (some (.ref f15)))
    (l15 : K.lookup f15 = some ⟨oc15, od15, .func (PySem.W.fnOf "_law_tree" "_law_tree" (defArgs s__law_tree) (defBody s__law_tree) (defScope s__law_tree) .none kV15 dc15 pm15 an15 cd15 ct15), sl15⟩)
    (c15 : PySem.W.codeIn K cd15 "_law_tree" = true)
    (k15 : PySem.W.keepIn K (.ref f15) = true)
    (a16 : PySem.W.nsIn K mainGlobals "_law_rig" = some (some (.ref f16)))
    (l16 : K.lookup f16 = some ⟨oc16, od16, .func (PySem.W.fnOf "_law_rig" "_law_rig" (defArgs s__law_rig) (defBody s__law_rig) (defScope s__law_rig) .none kV16 dc16 pm16 an16 cd16 ct16), sl16⟩)
    (c16 : PySem.W.codeIn K cd16 "_law_rig" = true)
    (k16 : PySem.W.keepIn K (.ref f16) = true)
    (a17 : PySem.W.nsIn K mainGlobals "_law_leaf_names" = some (some (.ref f17)))
    (l17 : K.lookup f17 = some ⟨oc17, od17, .func (PySem.W.fnOf "_law_leaf_names" "_law_leaf_names" (defArgs s__law_leaf_names) (defBody s__law_leaf_names) (defScope s__law_leaf_names) .none kV17 dc17 pm17 an17 cd17 ct17), sl17⟩)
    (c17 : PySem.W.codeIn K cd17 "_law_leaf_names" = true)
    (k17 : PySem.W.keepIn K (.ref f17) = true)
    (a18 : PySem.W.nsIn K mainGlobals "_law_is_rig" = some (some (.ref f18)))
    (l18 : K.lookup f18 = some ⟨oc18, od18, .func (PySem.W.fnOf "_law_is_rig" "_law_is_rig" (defArgs s__law_is_rig) (defBody s__law_is_rig) (defScope s__law_is_rig) .none kV18 dc18 pm18 an18 cd18 ct18), sl18⟩)
    (c18 : PySem.W.codeIn K cd18 "_law_is_rig" = true)
    (k18 : PySem.W.keepIn K (.ref f18) = true)
    (a19 : PySem.W.nsIn K mainGlobals "law" = some (some (.ref f19)))
    (l19 : K.lookup f19 = some ⟨oc19, od19, .func (PySem.W.fnOf "law" "law" (defArgs s_law) (defBody s_law) (defScope s_law) .none kV19 dc19 pm19 an19 cd19 ct19), sl19⟩)
    (c19 : PySem.W.codeIn K cd19 "law" = true)
    (k19 : PySem.W.keepIn K (.ref f19) = true)
    (e_MOST_STRANDS : PySem.W.nsIn K mainGlobals "MOST_STRANDS" = some (some (.int 6 tt_MOST_STRANDS)))
    (e_LARGEST_WEAR : PySem.W.nsIn K mainGlobals "LARGEST_WEAR" = some (some (.int 20 tt_LARGEST_WEAR)))
    (z_all : PySem.W.nsIn K mainGlobals "all" = some none)
    (z_bool : PySem.W.nsIn K mainGlobals "bool" = some none)
    (z_enumerate : PySem.W.nsIn K mainGlobals "enumerate" = some none)
    (z_int : PySem.W.nsIn K mainGlobals "int" = some none)
    (z_isinstance : PySem.W.nsIn K mainGlobals "isinstance" = some none)
    (z_len : PySem.W.nsIn K mainGlobals "len" = some none)
    (z_list : PySem.W.nsIn K mainGlobals "list" = some none)
    (z_min : PySem.W.nsIn K mainGlobals "min" = some none)
    (z_range : PySem.W.nsIn K mainGlobals "range" = some none)
    (z_set : PySem.W.nsIn K mainGlobals "set" = some none)
    (z_str : PySem.W.nsIn K mainGlobals "str" = some none)
    (z_tuple : PySem.W.nsIn K mainGlobals "tuple" = some none)
    (own : ∀ nm ∈ genNames, ∀ fb, mg nm = some (.ref fb) → LamX.OwnTab K fb h) : LamX.LawAtS l w K CX0 203 63 "script" mg fa h := by
  have e := hfa.symm.trans (PySem.W.mg_of X Gn a19)
  cases e
  have F1 := fun_mk (st := s_is_between) l1 c1 k1
  have b1 := F1.binds (ps := ["value", "low", "high"]) fun _ _ _ _ _ _ us hl => match us, hl with | [_, _, _], _ => rfl
  have F2 := fun_mk (st := s_is_name) l2 c2 k2
  have b2 := F2.binds (ps := ["value"]) fun _ _ _ _ _ _ us hl => match us, hl with | [_], _ => rfl
  have F3 := fun_mk (st := s_is_strand) l3 c3 k3
  have b3 := F3.binds (ps := ["value"]) fun _ _ _ _ _ _ us hl => match us, hl with | [_], _ => rfl
  have F4 := fun_mk (st := s_is_rig) l4 c4 k4
  have b4 := F4.binds (ps := ["value"]) fun _ _ _ _ _ _ us hl => match us, hl with | [_], _ => rfl
  have F5 := fun_mk (st := s__law_cell) l5 c5 k5
  have b5 := F5.binds (ps := ["script", "index"]) fun _ _ _ _ _ _ us hl => match us, hl with | [_, _], _ => rfl
  have F6 := fun_mk (st := s__law_digits) l6 c6 k6
  have b6 := F6.binds (ps := ["script", "index", "count", "base"]) fun _ _ _ _ _ _ us hl => match us, hl with | [_, _, _, _], _ => rfl
  have F7 := fun_mk (st := s__law_is_integer) l7 c7 k7
  have b7 := F7.binds (ps := ["value", "low", "high"]) fun _ _ _ _ _ _ us hl => match us, hl with | [_, _, _], _ => rfl
  have F8 := fun_mk (st := s__law_same_bool) l8 c8 k8
  have b8 := F8.binds (ps := ["result", "expected"]) fun _ _ _ _ _ _ us hl => match us, hl with | [_, _], _ => rfl
  have F9 := fun_mk (st := s__law_paths) l9 c9 k9
  have b9 := F9.binds (ps := ["value"]) fun _ _ _ _ _ _ us hl => match us, hl with | [_], _ => rfl
  have F10 := fun_mk (st := s__law_other_value) l10 c10 k10
  have b10 := F10.binds (ps := ["value", "digits"]) fun _ _ _ _ _ _ us hl => match us, hl with | [_, _], _ => rfl
  have F11 := fun_mk (st := s__law_moved_item) l11 c11 k11
  have b11 := F11.binds (ps := ["items", "index", "digits"]) fun _ _ _ _ _ _ us hl => match us, hl with | [_, _, _], _ => rfl
  have F12 := fun_mk (st := s__law_change_at) l12 c12 k12
  have b12 := F12.binds (ps := ["value", "path", "digits"]) fun _ _ _ _ _ _ us hl => match us, hl with | [_, _, _], _ => rfl
  have F13 := fun_mk (st := s__law_mutated) l13 c13 k13
  have b13 := F13.binds (ps := ["value", "digits"]) fun _ _ _ _ _ _ us hl => match us, hl with | [_, _], _ => rfl
  have F14 := fun_mk (st := s__law_any_value) l14 c14 k14
  have b14 := F14.binds (ps := ["digits", "depth"]) fun _ _ _ _ _ _ us hl => match us, hl with | [_, _], _ => rfl
  have F15 := fun_mk (st := s__law_tree) l15 c15 k15
  have b15 := F15.binds (ps := ["parts", "digits"]) fun _ _ _ _ _ _ us hl => match us, hl with | [_, _], _ => rfl
  have F16 := fun_mk (st := s__law_rig) l16 c16 k16
  have b16 := F16.binds (ps := ["digits", "limit"]) fun _ _ _ _ _ _ us hl => match us, hl with | [_, _], _ => rfl
  have F17 := fun_mk (st := s__law_leaf_names) l17 c17 k17
  have b17 := F17.binds (ps := ["value"]) fun _ _ _ _ _ _ us hl => match us, hl with | [_], _ => rfl
  have F18 := fun_mk (st := s__law_is_rig) l18 c18 k18
  have b18 := F18.binds (ps := ["value"]) fun _ _ _ _ _ _ us hl => match us, hl with | [_], _ => rfl
  have F19 := fun_mk (st := s_law) l19 c19 k19
  have b19 := F19.binds (ps := ["script"]) fun _ _ _ _ _ _ us hl => match us, hl with | [_], _ => rfl
  let G : Gx K mg := Gx.mk f1 _ F1 b1 (PySem.W.mg_of X Gn a1) f2 _ F2 b2 (PySem.W.mg_of X Gn a2) f3 _ F3 b3 (PySem.W.mg_of X Gn a3) f4 _ F4 b4 (PySem.W.mg_of X Gn a4) f5 _ F5 b5 (PySem.W.mg_of X Gn a5) f6 _ F6 b6 (PySem.W.mg_of X Gn a6) f7 _ F7 b7 (PySem.W.mg_of X Gn a7) f8 _ F8 b8 (PySem.W.mg_of X Gn a8) f9 _ F9 b9 (PySem.W.mg_of X Gn a9) f10 _ F10 b10 (PySem.W.mg_of X Gn a10) f11 _ F11 b11 (PySem.W.mg_of X Gn a11) f12 _ F12 b12 (PySem.W.mg_of X Gn a12) f13 _ F13 b13 (PySem.W.mg_of X Gn a13) f14 _ F14 b14 (PySem.W.mg_of X Gn a14) f15 _ F15 b15 (PySem.W.mg_of X Gn a15) f16 _ F16 b16 (PySem.W.mg_of X Gn a16) f17 _ F17 b17 (PySem.W.mg_of X Gn a17) f18 _ F18 b18 (PySem.W.mg_of X Gn a18) fa _ F19 b19 (PySem.W.mg_of X Gn a19) cc2 pp2 ⟨⟨_, _, _, _, _, _, _, _, rfl, l2, c2⟩⟩ tt_MOST_STRANDS (PySem.W.mg_of X Gn e_MOST_STRANDS) tt_LARGEST_WEAR (PySem.W.mg_of X Gn e_LARGEST_WEAR) (PySem.W.mg_none_of X Gn z_all) (PySem.W.mg_none_of X Gn z_bool) (PySem.W.mg_none_of X Gn z_enumerate) (PySem.W.mg_none_of X Gn z_int) (PySem.W.mg_none_of X Gn z_isinstance) (PySem.W.mg_none_of X Gn z_len) (PySem.W.mg_none_of X Gn z_list) (PySem.W.mg_none_of X Gn z_min) (PySem.W.mg_none_of X Gn z_range) (PySem.W.mg_none_of X Gn z_set) (PySem.W.mg_none_of X Gn z_str) (PySem.W.mg_none_of X Gn z_tuple)
  refine ⟨PySem.W.fnOf "law" "law" (defArgs s_law) (defBody s_law) (defScope s_law) .none kV19 dc19 pm19 an19 cd19 ct19,
    [(cc2, pp2)], spLaw K pp2, ?_, ?_, ?_, fun s v => .of_eq rfl, ?_, ?_⟩
  · intro p hp
    rw [List.mem_singleton.mp hp]
    exact own "is_name" (by decide) f2 (PySem.W.mg_of X Gn a2) cc2 pp2 _ _ _ _ _ _ l2 rfl rfl lc2 lv2.1
  · intro p hp
    rw [List.mem_singleton.mp hp]
    exact lp2
  · intro p hp
    rw [List.mem_singleton.mp hp]
    exact code_hd X lc2 lv2 lp2
  · intro H a ns hl _ hT hS
    exact ⟨a, ns, rfl, hS, hl, ⟨#[], hT (cc2, pp2) (List.mem_singleton.mpr rfl), True.intro⟩, fun _ => rfl⟩
  · intro base _ _ hTB
    have tb := hTB (cc2, pp2) (List.mem_singleton.mpr rfl)
    exact ok_law G ⟨tb.code, tb.bm, tb.gP⟩
end Wr
open PySem PySem.W PyProof.Rows
set_option maxRecDepth 100000 in
set_option maxHeartbeats 0 in
theorem PySem.Challenge.cw_wornrigs_k01_rig_values_holds : PySem.Challenge.rw_wornrigs_k01_rig_values.Holds := by
  w_on; o_law; k_head; (case hw => w_witness2)
  k_fill
  refine Wr.walk_gens (l := PySem.Challenge.rw_wornrigs_k01_rig_values) (n := 63) (k := 203) (x := "script") (CX := fun _ => L2.CX0) Wr.genNames rfl (by decide) rfl ⟨rfl, by decide, by decide⟩ (by decide +kernel) (fun w h Y => PySem.W.kIn_of Y) ?F (fun _ _ _ _ _ z => z)
  case F =>
    intro w mg fa h KX G hmg own
    refine' Wr.all_mk KX G hmg ?a1 ?l1 ?c1 ?k1 ?a2 ?l2 ?c2 ?k2 ?lc2 ?lv2 ?lp2 ?a3 ?l3 ?c3 ?k3 ?a4 ?l4 ?c4 ?k4 ?a5 ?l5 ?c5 ?k5 ?a6 ?l6 ?c6 ?k6 ?a7 ?l7 ?c7 ?k7 ?a8 ?l8 ?c8 ?k8 ?a9 ?l9 ?c9 ?k9 ?a10 ?l10 ?c10 ?k10 ?a11 ?l11 ?c11 ?k11 ?a12 ?l12 ?c12 ?k12 ?a13 ?l13 ?c13 ?k13 ?a14 ?l14 ?c14 ?k14 ?a15 ?l15 ?c15 ?k15 ?a16 ?l16 ?c16 ?k16 ?a17 ?l17 ?c17 ?k17 ?a18 ?l18 ?c18 ?k18 ?a19 ?l19 ?c19 ?k19 ?e_MOST_STRANDS ?e_LARGEST_WEAR ?z_all ?z_bool ?z_enumerate ?z_int ?z_isinstance ?z_len ?z_list ?z_min ?z_range ?z_set ?z_str ?z_tuple own
    (case a1 => k_is)
    (case l1 => k_is)
    (case c1 => k_is)
    (case k1 => k_is)
    (case a2 => k_is)
    (case l2 => k_is)
    (case c2 => k_is)
    (case k2 => k_is)
    (case lc2 => k_is)
    (case lv2 => exact ⟨rfl, rfl, ⟨_, _, rfl⟩, ⟨_, _, rfl⟩, ⟨_, rfl⟩, _, _, rfl⟩)
    (case lp2 => kernel_rfl)
    (case a3 => k_is)
    (case l3 => k_is)
    (case c3 => k_is)
    (case k3 => k_is)
    (case a4 => k_is)
    (case l4 => k_is)
    (case c4 => k_is)
    (case k4 => k_is)
    (case a5 => k_is)
    (case l5 => k_is)
    (case c5 => k_is)
    (case k5 => k_is)
    (case a6 => k_is)
    (case l6 => k_is)
    (case c6 => k_is)
    (case k6 => k_is)
    (case a7 => k_is)
    (case l7 => k_is)
    (case c7 => k_is)
    (case k7 => k_is)
    (case a8 => k_is)
    (case l8 => k_is)
    (case c8 => k_is)
    (case k8 => k_is)
    (case a9 => k_is)
    (case l9 => k_is)
    (case c9 => k_is)
    (case k9 => k_is)
    (case a10 => k_is)
    (case l10 => k_is)
    (case c10 => k_is)
    (case k10 => k_is)
    (case a11 => k_is)
    (case l11 => k_is)
    (case c11 => k_is)
    (case k11 => k_is)
    (case a12 => k_is)
    (case l12 => k_is)
    (case c12 => k_is)
    (case k12 => k_is)
    (case a13 => k_is)
    (case l13 => k_is)
    (case c13 => k_is)
    (case k13 => k_is)
    (case a14 => k_is)
    (case l14 => k_is)
    (case c14 => k_is)
    (case k14 => k_is)
    (case a15 => k_is)
    (case l15 => k_is)
    (case c15 => k_is)
    (case k15 => k_is)
    (case a16 => k_is)
    (case l16 => k_is)
    (case c16 => k_is)
    (case k16 => k_is)
    (case a17 => k_is)
    (case l17 => k_is)
    (case c17 => k_is)
    (case k17 => k_is)
    (case a18 => k_is)
    (case l18 => k_is)
    (case c18 => k_is)
    (case k18 => k_is)
    (case a19 => k_is)
    (case l19 => k_is)
    (case c19 => k_is)
    (case k19 => k_is)
    (case e_MOST_STRANDS => k_is)
    (case e_LARGEST_WEAR => k_is)
    (case z_all => k_is)
    (case z_bool => k_is)
    (case z_enumerate => k_is)
    (case z_int => k_is)
    (case z_isinstance => k_is)
    (case z_len => k_is)
    (case z_list => k_is)
    (case z_min => k_is)
    (case z_range => k_is)
    (case z_set => k_is)
    (case z_str => k_is)
    (case z_tuple => k_is)
#print axioms PySem.Challenge.cw_wornrigs_k01_rig_values_holds

